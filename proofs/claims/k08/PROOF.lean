import PyProof.Rows.All
import Wide.All
import OpenK.AllK
import Wide.FinOn
import HandS.CallLocal
import HandS.DictComp
import HandS.Evl
import HandS.Exc
import HandS.ExcField
import HandS.ExcInit
import HandS.ExcIs
import HandS.ExcOwn
import HandS.ExcValue
import HandS.ForMost
import HandS.IsInst
import HandS.More
import HandS.Star
import HandS.Strs
import HandS.Style
import HandS.TupAny
import HandS.Walk
import HandS.WordsExc
import HandS.WrittenGet
import HandS.Zip
import KE.GoesMore
import KE.KDictZip
import PySem.Challenge.RW_nearlocks_k08_names_that_are_not_there
set_option Elab.async false
set_option linter.all false
set_option maxRecDepth 100000
set_option maxHeartbeats 4000000
/-! the ground: data of the heap, their kinds, what stays -/
namespace NL
open PySem L2 Evl

mutual
theorem dp_of {K : PySem.W.Frag} {H H' : Hp} (el : ∀ a xs, SqL K H a xs → SqL K H' a xs) (et : ∀ a xs, SqT K H a xs → SqT K H' a xs) : ∀ (d : PyData) (v : V), Dp K H v d → Dp K H' v d
  | .none, _, h => by cases h; exact .non
  | .bool b, _, h => by cases h; exact .bl b
  | .int i, _, h => by cases h; exact .int i
  | .str x, _, h => by cases h; exact .str x
  | .list ds, _, h => by
    cases h with
    | lst hs ha => exact .lst (el _ _ hs) (dpa_of el et ds _ ha)
  | .tuple ds, _, h => by
    cases h with
    | tup hs ha => exact .tup (et _ _ hs) (dpa_of el et ds _ ha)
  | .dict _, _, h => by cases h
theorem dpa_of {K : PySem.W.Frag} {H H' : Hp} (el : ∀ a xs, SqL K H a xs → SqL K H' a xs) (et : ∀ a xs, SqT K H a xs → SqT K H' a xs) : ∀ (ds : List PyData) (vs : List V), DpAll K H vs ds → DpAll K H' vs ds
  | [], _, h => by cases h; exact .nil
  | d :: ds, _, h => by
    cases h with
    | cons h1 h2 => exact .cons (dp_of el et d _ h1) (dpa_of el et ds _ h2)
end
theorem dp_mono {K : PySem.W.Frag} {H H' : Hp} {v : V} {d : PyData} (e : Ex H H') (h : Dp K H v d) : Dp K H' v d := dp_of (fun _ _ => ex_l e) (fun _ _ => ex_t e) d v h
theorem dpa_mono {K : PySem.W.Frag} {H H' : Hp} {vs : List V} {ds : List PyData} (e : Ex H H') (h : DpAll K H vs ds) : DpAll K H' vs ds := dpa_of (fun _ _ => ex_l e) (fun _ _ => ex_t e) ds vs h
theorem dpa_len {K : PySem.W.Frag} {H : Hp} : ∀ {vs : List V} {ds : List PyData}, DpAll K H vs ds → vs.length = ds.length
  | _, _, .nil => rfl
  | _, _, .cons _ t => by rw [List.length_cons, List.length_cons, dpa_len t]
theorem dpa_get {K : PySem.W.Frag} {H : Hp} : ∀ {vs : List V} {ds : List PyData} {i : Nat} {v : V}, DpAll K H vs ds → vs[i]? = some v → ∃ d, ds[i]? = some d ∧ Dp K H v d
  | _, _, _, _, .nil, e => by simp at e
  | _, _, 0, _, .cons r _, e => by simp at e; subst e; exact ⟨_, rfl, r⟩
  | _, _, i + 1, v, .cons _ t, e => by
    obtain ⟨d, h1, h2⟩ := dpa_get (i := i) (v := v) t (by simpa using e)
    exact ⟨d, by simpa using h1, h2⟩

/-! ### kinds -/
def tyN : PyData → String
  | .none => "NoneType" | .bool _ => "bool" | .int _ => "int" | .str _ => "str" | .list _ => "list" | .tuple _ => "tuple" | .dict _ => "dict"
theorem dp_ty {K : PySem.W.Frag} {H : Hp} {v : V} {d : PyData} (h : Dp K H v d) : TyX K H v (.type (tyN d)) := by
  cases h with
  | non => exact .base .non
  | bl b => exact .base (.bl b)
  | int i => exact .base (.int i)
  | str x => exact .base (.str x)
  | lst hs _ =>
    rcases hs with (h | ⟨o, h⟩) | ⟨o, its, n, h, c, _⟩
    · exact .base (.lst h)
    · exact .base (.frz h)
    · exact .kList h c
  | tup hs _ =>
    rcases hs with (h | ⟨o, h⟩) | ⟨o, its, n, h, c, _⟩
    · exact .base (.tup h)
    · exact .fTuple h
    · exact .kTuple h c
def isIntB : PyData → Bool
  | .int _ => true | .bool _ => true | _ => false
def isBoolB : PyData → Bool
  | .bool _ => true | _ => false
def isTupB : PyData → Bool
  | .tuple _ => true | _ => false
def isStrB : PyData → Bool
  | .str _ => true | _ => false
theorem kt_int (d : PyData) : kitB (tyN d) "int" = some (isIntB d) := by
  cases d
  · exact (by decide +kernel : kitB "NoneType" "int" = some false)
  · exact (by decide +kernel : kitB "bool" "int" = some true)
  · exact (by decide +kernel : kitB "int" "int" = some true)
  · exact (by decide +kernel : kitB "str" "int" = some false)
  · exact (by decide +kernel : kitB "list" "int" = some false)
  · exact (by decide +kernel : kitB "tuple" "int" = some false)
  · exact (by decide +kernel : kitB "dict" "int" = some false)
theorem kt_bool (d : PyData) : kitB (tyN d) "bool" = some (isBoolB d) := by
  cases d
  · exact (by decide +kernel : kitB "NoneType" "bool" = some false)
  · exact (by decide +kernel : kitB "bool" "bool" = some true)
  · exact (by decide +kernel : kitB "int" "bool" = some false)
  · exact (by decide +kernel : kitB "str" "bool" = some false)
  · exact (by decide +kernel : kitB "list" "bool" = some false)
  · exact (by decide +kernel : kitB "tuple" "bool" = some false)
  · exact (by decide +kernel : kitB "dict" "bool" = some false)
theorem kt_tuple (d : PyData) : kitB (tyN d) "tuple" = some (isTupB d) := by
  cases d
  · exact (by decide +kernel : kitB "NoneType" "tuple" = some false)
  · exact (by decide +kernel : kitB "bool" "tuple" = some false)
  · exact (by decide +kernel : kitB "int" "tuple" = some false)
  · exact (by decide +kernel : kitB "str" "tuple" = some false)
  · exact (by decide +kernel : kitB "list" "tuple" = some false)
  · exact (by decide +kernel : kitB "tuple" "tuple" = some true)
  · exact (by decide +kernel : kitB "dict" "tuple" = some false)
theorem kt_str (d : PyData) : kitB (tyN d) "str" = some (isStrB d) := by
  cases d
  · exact (by decide +kernel : kitB "NoneType" "str" = some false)
  · exact (by decide +kernel : kitB "bool" "str" = some false)
  · exact (by decide +kernel : kitB "int" "str" = some false)
  · exact (by decide +kernel : kitB "str" "str" = some true)
  · exact (by decide +kernel : kitB "list" "str" = some false)
  · exact (by decide +kernel : kitB "tuple" "str" = some false)
  · exact (by decide +kernel : kitB "dict" "str" = some false)

section
variable {K : PySem.W.Frag} {σ : L2.St} {H : Hp} {ta tb te : TE} {x v : V} {d : PyData}
theorem ev_isi {T : String} {b : Bool} (ha : Ev ta σ H x) (hd : Dp K H x d) (hk : kitB (tyN d) T = some b) : Ev (tCB (rIsi K) (tCons ta (tCons (tC (.ty T)) tNil))) σ H (.bl b) := fun H1 e Q q =>
  ha H1 e _ fun H2 e2 => ⟨x, .ty T, _, _, b, rfl, .ty T, dp_ty (dp_mono (e.trans e2) hd), kit_ty hk, q H2 e2⟩
theorem ev_lenT {p : Addr} {xs : List V} (ha : Ev ta σ H (.ref p)) (h : SqT K H p xs) : Ev (tCB (rLenS K) (tCons ta tNil)) σ H (.int (xs.length : Int)) := fun H1 e Q q =>
  ha H1 e _ fun H2 e2 => ⟨p, xs, rfl, Or.inr (ex_t (e.trans e2) h), q H2 e2⟩
theorem ev_ixT {p : Addr} {xs : List V} {i : Int} (ha : Ev ta σ H (.ref p)) (hb : Ev tb σ H (.int i)) (h : SqT K H p xs) (hi : atI xs i = some v) : Ev (tOp (rIxT K) ta tb) σ H v := ev_op ha hb (rv_ixT h hi)
theorem ev_isN (ha : Ev ta σ H x) : Ev (tIsN ta) σ H (.bl (decide (x = .non))) := fun H1 e Q q => ha H1 e _ fun H2 e2 => q H2 e2
theorem ev_eq {y : V} (ha : Ev ta σ H x) (hb : Ev tb σ H y) (h : scal x y = true) : Ev (tOp rEq ta tb) σ H (.bl (decide (x = y))) := ev_op ha hb (rv_eq h)
theorem ev_ne {y : V} (ha : Ev ta σ H x) (hb : Ev tb σ H y) (h : scal x y = true) : Ev (tOp rNe ta tb) σ H (.bl (!decide (x = y))) := ev_op ha hb (rv_ne h)
theorem ev_I0 {g : Int → Int → V} {i j : Int} (ha : Ev ta σ H (.int i)) (hb : Ev tb σ H (.int j)) : Ev (tOp (rI0 g) ta tb) σ H (g i j) := ev_op ha hb rv_I0
theorem ev_I {C : Int → Int → Prop} {g : Int → Int → V} {i j : Int} (hc : C i j) (ha : Ev ta σ H (.int i)) (hb : Ev tb σ H (.int j)) : Ev (tOp (rI C g) ta tb) σ H (g i j) := ev_op ha hb (rv_I hc)
theorem ev_allN {bs : List Bool} (ha : EvL ta σ H (bs.map V.bl)) : Ev (tCB (rAll K) (tCons ta tNil)) σ H (.bl (bs.all id)) := fun H1 e Q q =>
  ha H1 e _ fun p H2 _ e2 h2 => ⟨p, bs, rfl, sq_of h2, q H2 e2⟩
/-- a comprehension over a tuple, whose turns give or skip as told -/
theorem el_lcT {a : Addr} {xs : List V} {tl : TE} {tt : TT} {j : Nat} {vs : List Nat} (f : Nat → Bool) (g : Nat → V) (src : Ev tl σ H (.ref a)) (held : SqT K H a xs) (few : xs.length ≤ 40000) (clean : ∀ x, wipe ((wipe σ vs).set j (some x)) vs = wipe σ vs)
    (test : ∀ (i : Nat) (x : V) H1, Ex H H1 → xs[i]? = some x → EvT tt ((wipe σ vs).set j (some x)) H1 (f i)) (give : ∀ (i : Nat) (x : V) H1, Ex H H1 → xs[i]? = some x → f i = true → Ev te ((wipe σ vs).set j (some x)) H1 (g i)) :
    EvL (tLc (iTup K tl) (gName j) tt te vs) σ H (given xs.length f g) := by
  intro H0 e0 Q next
  refine src H0 e0 _ fun H1 e1 => ?_
  have e01 : Ex H H1 := e0.trans e1
  refine ⟨a, rfl, ⟨xs, ex_t e01 held⟩, fun made fresh => ?_⟩
  refine lc_tup (xs := xs) (Cw H1 f g made) ⟨fresh, Ex.new fresh, upd_same⟩ ?stays ?turn ?done
  case stays =>
    intro i H' _ inv
    exact ex_t (e01.trans inv.2.1) held
  case turn =>
    intro i x H' at_i inv
    have small : i < 50000 := by
      have := (List.getElem?_eq_some_iff.mp at_i).1
      omega
    exact ⟨clean x, cw_turn inv small (test i x H1 e01 at_i) (give i x H1 e01 at_i)⟩
  case done =>
    intro H' inv
    exact next made H' (fresh_back e1 inv.1) (e1.trans inv.2.1) inv.2.2
end
theorem s_next {D : Ends} {σ : L2.St} {H : Hp} (h : D.nx σ H) : tNext D σ H := h
theorem s_seq {D : Ends} {t u : TS} {σ : L2.St} {H : Hp} (h : t { D with nx := u D } σ H) : tSeq t u D σ H := h
theorem q_asgP {te : TE} {tz : TS} {D : Ends} {σ : L2.St} {H : Hp} {i : Nat} (h : te σ H fun v H1 => tz D (σ.set i (some v)) H1) : tSeq (tAsg te (gName i)) tz D σ H := h
theorem s_retP {te : TE} {D : Ends} {σ : L2.St} {H : Hp} (h : te σ H fun v H1 => D.rt v H1) : tRet te D σ H := h
theorem q_dropP {te : TE} {tz : TS} {D : Ends} {σ : L2.St} {H : Hp} (h : te σ H fun v H1 => tz D σ H1) : tSeq (tDrop te) tz D σ H := h
theorem et_yes {σ : L2.St} {H : Hp} : EvT tYes σ H true := fun H1 _ _ q => q H1 (Ex.refl H1)
theorem given_all (n : Nat) (g : Nat → V) : given n (fun _ => true) g = (List.range n).map g := by
  unfold given
  rw [List.filter_eq_self.mpr (fun _ _ => rfl)]

/-! ### arguments without a star, whatever the scope -/
def noStar : Expr → Bool
  | .Starred _ _ => false
  | _ => true
theorem star1 {e : Expr} {es : List Expr} {env : Env} (h : noStar e = true) : starEach (e :: es) env = (false, eval e env) :: starEach es env := by
  cases e <;> first | rfl | cases h
theorem starAll {pos : Pos} {env : Env} : ∀ {es : List Expr}, es.all noStar = true → (backTo pos (starEach es env)).any (·.1) = false
  | [], _ => rfl
  | e :: es, h => by
    rw [List.all_cons, Bool.and_eq_true] at h
    rw [star1 h.1]
    have := starAll (pos := pos) (env := env) h.2
    unfold backTo at this ⊢
    simpa using this
/-! ### rules by a written part that is named -/
section
variable {X : Cx} {K : PySem.W.Frag}
theorem lenK (h : X.K = K) : CallR X (.builtin "len") (rLenS K) := by subst h; exact call_len_seq
theorem isiK (h : X.K = K) : CallR X (.builtin "isinstance") (rIsi K) := by subst h; exact call_isi
theorem allK (h : X.K = K) (hc : X.calm = true) : CallR X (.builtin "all") (rAll K) := by subst h; exact cr_all hc
theorem ixTK (h : X.K = K) : IxR X (rIxT K) := by subst h; exact ix_tup
theorem ixLK (h : X.K = K) : IxR X (rIxL K) := by subst h; exact ix_list
theorem catAK (h : X.K = K) : OpR X (binaryOp .Add) (rCatA K) := by subst h; exact op_catA
theorem slAK (h : X.K = K) : SlR X (rSlA K) := by subst h; exact sl_tupA
theorem eqDK (h : X.K = K) (hu : X.A.units + 64 < cLine) : OpR X (compareOp .Eq) (rEqD K) := by subst h; exact op_eqD hu
theorem neDK (h : X.K = K) (hu : X.A.units + 64 < cLine) : OpR X (compareOp .NotEq) (rNeD K) := by subst h; exact op_neD hu
end

/-! ### a dict of the module, asked by any text -/
def KTab (K : PySem.W.Frag) (w : World) (a : Addr) (f : Str → Option Value) : Prop :=
  ∃ es n, K.lookup a = some ⟨.type "dict", none, .dict es n, #[]⟩ ∧ PySem.W.KeysLit w.params es.toList ∧ (a == sysModules) = false ∧ ∀ z, PySem.W.nsIn K a z = some (f z)
def rNotInK (K : PySem.W.Frag) (w : World) : R2 := fun x y H Q => ∃ p z f, x = .str z ∧ y = .ref p ∧ KTab K w p f ∧ Q (.bl (!(f z).isSome)) H
section
variable {X : Cx}
theorem op_notInK : OpR X (compareOp .NotIn) (rNotInK X.K X.w) := by
  intro pins s σ H x y v u Q I rx ry h
  obtain ⟨p, z, f, rfl, rfl, ⟨es, n, hl, hk, low, hf⟩, q⟩ := h
  obtain rfl : u = Value.ref p := ry
  obtain ⟨t, rfl⟩ := rx
  have hm := PySem.W.mapOf_K (prog := X.prog) (w := X.w) I.kIn hl hk
  refine wpAny_notIn_of (strKind_is X.prog X.w z t) low hm ?_
  rw [PySem.W.find_K hl (hf z)]
  exact ⟨.bl _, H, I.tok _, rfl, q⟩
end
theorem rv_ixD {K : PySem.W.Frag} {w : World} {H : Hp} {p : Addr} {z : Str} {f : Str → Option Value} {a : Addr} (h : KTab K w p f) (e : f z = some (.ref a)) : RV (rIxD K w) (.ref p) (.str z) H (.ref a) := fun H1 _ _ q => by
  obtain ⟨es, n, hl, hk, _, hf⟩ := h
  exact ⟨p, z, .ref a, rfl, rfl, ⟨es, n, .ref a, hl, hk, by rw [hf z, e], rfl⟩, q H1 (Ex.refl H1)⟩
theorem rv_notInK {K : PySem.W.Frag} {w : World} {H : Hp} {p : Addr} {z : Str} {f : Str → Option Value} (h : KTab K w p f) : RV (rNotInK K w) (.str z) (.ref p) H (.bl (!(f z).isSome)) := fun H1 _ _ q => ⟨p, z, f, rfl, rfl, h, q H1 (Ex.refl H1)⟩
end NL

/-! the drawing hand: a list of a list of cells and a seed; what stays while it draws -/
namespace NL
open PySem L2 Evl
structure HandAt (H : Hp) (h l : Addr) (cs : List Int) (sd : Int) : Prop where
  hh : H h = some (.lst [.ref l, .int sd])
  hl : H l = some (.lst (cs.map V.int))
  lo : 0 ≤ sd
  hi : sd < 2305843009213693951
  few : cs.length ≤ 63
  pos : ∀ c ∈ cs, 0 ≤ c
def Hand (H : Hp) (h l : Addr) : Prop := ∃ cs sd, HandAt H h l cs sd
def Kp (h l : Addr) (H H' : Hp) : Prop := ∀ a o, a ≠ h → a ≠ l → H a = some o → H' a = some o
theorem Kp.refl (h l : Addr) (H : Hp) : Kp h l H H := fun _ _ _ _ e => e
theorem Kp.trans {h l : Addr} {H H1 H2 : Hp} (a : Kp h l H H1) (b : Kp h l H1 H2) : Kp h l H H2 := fun x o n m e => b x o n m (a x o n m e)
theorem Kp.ex {h l : Addr} {H H1 : Hp} (a : Ex H H1) : Kp h l H H1 := fun x o _ _ e => a x o e
theorem Kp.put {h l : Addr} {H H1 : Hp} {o : HO} {a : Addr} (k : Kp h l H H1) (ha : a = h ∨ a = l) : Kp h l H (upd H1 a o) := fun x u n m e => by
  have hx : x ≠ a := by rcases ha with rfl | rfl <;> assumption
  rw [upd_ne hx]
  exact k x u n m e
theorem HandAt.ne {H : Hp} {h l : Addr} {cs : List Int} {sd : Int} (A : HandAt H h l cs sd) : h ≠ l := by
  intro e
  subst e
  have e2 := A.hh.symm.trans A.hl
  cases cs with
  | nil => cases e2
  | cons c r => cases e2
theorem Hand.ne {H : Hp} {h l : Addr} (A : Hand H h l) : h ≠ l := by
  obtain ⟨cs, sd, A⟩ := A
  exact A.ne
theorem HandAt.ex {H H' : Hp} {h l : Addr} {cs : List Int} {sd : Int} (A : HandAt H h l cs sd) (e : Ex H H') : HandAt H' h l cs sd := ⟨e _ _ A.hh, e _ _ A.hl, A.lo, A.hi, A.few, A.pos⟩
theorem Hand.ex {H H' : Hp} {h l : Addr} (A : Hand H h l) (e : Ex H H') : Hand H' h l := by
  obtain ⟨cs, sd, A⟩ := A
  exact ⟨cs, sd, A.ex e⟩
theorem Hand.fresh {H : Hp} {h l p : Addr} (A : Hand H h l) (n : H p = none) : p ≠ h ∧ p ≠ l := by
  obtain ⟨cs, sd, A⟩ := A
  constructor
  · intro e
    subst e
    rw [A.hh] at n
    cases n
  · intro e
    subst e
    rw [A.hl] at n
    cases n
theorem Hand.off {H : Hp} {h l p : Addr} {o : HO} (A : Hand H h l) (n : H p = some o) (no : ∀ xs, o ≠ .lst xs) : p ≠ h ∧ p ≠ l := by
  obtain ⟨cs, sd, A⟩ := A
  constructor
  · intro e
    subst e
    rw [A.hh] at n
    cases n
    exact no _ rfl
  · intro e
    subst e
    rw [A.hl] at n
    cases n
    exact no _ rfl
theorem kp_tup {H H' : Hp} {h l a : Addr} {xs : List V} (A : Hand H h l) (k : Kp h l H H') (e : H a = some (.tup xs)) : H' a = some (.tup xs) := by
  obtain ⟨n, m⟩ := A.off e (fun _ z => by cases z)
  exact k a _ n m e
/-- what is new lies beside the hand -/
theorem Hand.new {H : Hp} {h l p : Addr} {o : HO} (A : Hand H h l) (n : H p = none) : Hand (upd H p o) h l := A.ex (Ex.new n)
theorem Hand.upd {H : Hp} {h l p : Addr} {o : HO} (A : Hand H h l) (n : p ≠ h) (m : p ≠ l) : Hand (upd H p o) h l := by
  obtain ⟨cs, sd, A⟩ := A
  exact ⟨cs, sd, by rw [upd_ne (Ne.symm n)]; exact A.hh, by rw [upd_ne (Ne.symm m)]; exact A.hl, A.lo, A.hi, A.few, A.pos⟩

/-! ### lists of ints compared with [] -/
theorem dpa_ints {K : PySem.W.Frag} {H : Hp} : ∀ ns : List Int, DpAll K H (ns.map V.int) (ns.map PyData.int)
  | [] => .nil
  | n :: r => .cons (.int n) (dpa_ints r)
theorem lay_ints : ∀ ns : List Int, PyData.canLayAll0 (ns.map PyData.int) = true
  | [] => by simp [PyData.canLayAll0]
  | n :: r => by simp [PyData.canLayAll0, PyData.canLay0, lay_ints r]
theorem deep_ints : ∀ ns : List Int, PyData.depthAll (ns.map PyData.int) = 0
  | [] => by simp [PyData.depthAll]
  | n :: r => by simp [PyData.depthAll, PyData.depth, deep_ints r]
theorem shaped_ints (ns : List Int) : SeqAt.shaped (.list (ns.map PyData.int)) = true := by
  unfold SeqAt.shaped
  simp [PyData.canLay0, lay_ints, PyData.depth, deep_ints]
theorem eqv_nil (ds : List PyData) : PyData.eqvAll ds [] = ds.isEmpty := by
  cases ds <;> simp [PyData.eqvAll]
theorem ev_neNil {K : PySem.W.Frag} {σ : L2.St} {H : Hp} {ta : TE} {l : Addr} {cs : List Int} (ha : Ev ta σ H (.ref l)) (hl : H l = some (.lst (cs.map V.int))) : Ev (tOp (rNeD K) ta (tLst tNil)) σ H (.bl (!cs.isEmpty)) :=
  ev_opL (xs := []) ha (el_lst ea_nil (by decide)) fun p H1 hp e1 H2 e2 Q q => ⟨.list (cs.map PyData.int), .list [], .lst (sq_of (e2 _ _ (e1 _ _ hl))) (dpa_ints cs), .lst (sq_of (e2 _ _ hp)) .nil, shaped_ints cs, by decide +kernel, by
    have e : PyData.eqv (.list (cs.map PyData.int)) (.list []) = cs.isEmpty := by
      simp only [PyData.eqv, eqv_nil]
      cases cs <;> rfl
    rw [e]
    exact q H2 (Ex.refl H2)⟩

/-! ### slices of a list of ints, from its front -/
theorem el_cut {K : PySem.W.Frag} {σ : L2.St} {H : Hp} {ta : TE} {a : Addr} {xs : List V} {n : Int} (ha : Ev ta σ H (.ref a)) (hs : SqL K H a xs) : EvL (tSl (rSlL K) ta tNoPart (tPart (tC (.int n)))) σ H (cutV xs none (some n)) := fun H1 e Q q =>
  ha H1 e _ fun H2 e2 => ⟨n, rfl, a, xs, rfl, ex_l (e.trans e2) hs, fun p hp => q p _ (fresh_back e2 hp) (e2.trans (Ex.new hp)) upd_same⟩
theorem cut_ints (ns : List Int) (n : Int) : ∃ ms : List Int, cutV (ns.map V.int) none (some n) = ms.map V.int ∧ ms.length ≤ ns.length := by
  refine ⟨(ns.drop (HT.sIx (ns.map V.int).length 0 none)).take (HT.sIx (ns.map V.int).length (ns.map V.int).length (some n) - HT.sIx (ns.map V.int).length 0 none), ?_, ?_⟩
  · unfold cutV
    rw [List.map_take, List.map_drop]
  · rw [List.length_take, List.length_drop]
    omega
end NL

/-! defs that are called where no text of a heap's thing is being made: what repr asks for -/
namespace NL
open PySem PySem.Spec PyProof.Rows L2 Evl
/-- the promise of a def, kept wherever no repr is under way -/
structure FnG (P : Program) (w : World) (K : PySem.W.Frag) (mg : Str → Option Value) (base : Heap) (k : Nat) (f : Addr) (fd : FuncData) (ps : List Str) (sp : Sp) : Prop where
  arity : ∀ xs H Q E, sp xs H Q E → xs.length = ps.length
  go : ∀ (A : Around) (envs : List Env) (st : Shared) (H : Hp) (ar : Args) (vals : List Value) (xs : List V) (Q : VK) (E : XK), A.guards = some [] → Room k A → Env0 P w K mg base A envs st H → BindsTo st fd ar (ps.zip vals) → Vals xs vals → sp xs H Q E →
    codeAny (model P w) A (.call (.ref f) ar) (CR CX0 envs P w H st Q E) st
section
variable {P : Program} {w : World} {K : PySem.W.Frag} {mg : Str → Option Value} {base : Heap} {k : Nat} {f : Addr} {fd : FuncData} {ps : List Str} {sp : Sp}
theorem FnG.of (F : FnOk P w K mg base CX0 k f fd ps sp) : FnG P w K mg base k f fd ps sp := ⟨F.len, fun A envs st H ar vals xs Q E _ room => F.run A envs st H ar vals xs Q E room⟩
theorem FnG.up {j : Nat} (F : FnG P w K mg base k f fd ps sp) (h : k ≤ j) : FnG P w K mg base j f fd ps sp := ⟨F.arity, fun A envs st H ar vals xs Q E g room => F.go A envs st H ar vals xs Q E g (room.mono h)⟩
/-- a def of the text, by its body -/
theorem fun_g {x qual : Str} {st : Stmt} {N : List Str} (F : Fun K x qual st f fd) (S : FnScope N ps (defScope st)) (arity : ∀ xs H Q E, sp xs H Q E → xs.length = ps.length)
    (body : ∀ (cdv : Value) (A : Around) (outer : List Env) (s : Shared) (H : Hp) (vs : List V) (Q : VK) (E : XK), A.guards = some [] → Room k (A.deeper (PyProof.Rows.envOfC qual (defScope st) s.heap.objs.size f cdv)) → sp vs H Q E →
      ∃ t, PSs (cxOf CX0 P w K mg base N qual (defScope st) f cdv A outer s H E).nox (defBody st) t ∧ t { nx := fun _ H' => Q .non H', rt := Q } (start N vs) H) : FnG P w K mg base (k + 1) f fd ps sp := by
  obtain ⟨oc, od, kV, doc, pm, an, cdv, ct, osl, hfd, look, code⟩ := F.ex
  subst hfd
  constructor
  · exact arity
  intro A envs s H ar vals xs Q E quiet room env0 binds rel promise
  have stays : ∀ b o, base.get? b = some o → s.heap.get? b = some o := fun b o e => (env0.bs b o e).1
  have kin : K.In s.heap := env0.mod.kin.keeps stays
  have nolim : s.heap.NoLimit := env0.mod.nolimit.keeps stays
  obtain ⟨t, walk, ends⟩ := body cdv A envs s H xs Q E quiet (room.deeper _) promise
  refine codeAny_call_function room.depth (kin _ _ look) rfl S.co S.gen rfl (PySem.W.codeRec_of kin code) (binds _ _ _ _ ?_)
  refine wpAny_newFunctionEnv_cells S.kind ?kinds fun env henv s1 made => ?_
  case kinds =>
    intro ⟨n, v⟩ mem
    cases S.par n (List.of_mem_zip mem).1 with
    | inl loc => exact Or.inl loc
    | inr cell => exact Or.inr ⟨cell, PySem.W.cellsFrom_some _ _ _ (Or.inl cell)⟩
  subst henv
  refine ⟨nolim.keeps made.toInCall.keep, codeAny_func ?_⟩
  refine wpAny_mono (walk.nox.run [] s1 (start N xs) H _ (inv_start S room.hd env0 (arity _ _ _ _ promise) rel made) ends) (fun flow s' out => ?_) fun e s' out => out
  match flow, out with
  | .ret u, out =>
    obtain ⟨v, σ', H', inv, ru, q⟩ := out
    exact ⟨v, H', inv.os, inv.bare, inv.base, inv.hok, ru, q⟩
  | .next, out =>
    obtain ⟨σ', H', inv, q⟩ := out
    exact ⟨V.non, H', inv.os, inv.bare, inv.base, inv.hok, rfl, q⟩
  | .brk, out => exact out.elim fun _ h => h.elim fun _ h => h.2.elim
  | .cont, out => exact out.elim fun _ h => h.elim fun _ h => h.2.elim
end
section
variable {X : Cx} {k : Nat} {f : Addr} {fd : FuncData} {ps : List Str} {sp : Sp} {x : Str} {p pos : Pos} {e : Expr} {es : List Expr} {t : TA}
/-- f(e, ..) where no repr is under way -/
theorem pe_callG (F : FnG X.prog X.w X.K X.mg X.base k f fd ps sp) (quiet : X.A.guards = some []) (hr : Room k X.A) (hg : Gl X x) (hm : X.mg x = some (.ref f)) (hk : PySem.W.keepIn X.K (.ref f) = true) (hb : Binds X.K fd ps []) (ha : PA X (e :: es) t)
    (hdb : (x == ("__debug__" : Str)) = false := by decide) (he : noStar e = true := by rfl) (hes : es.all noStar = true := by rfl) : PE X (.Call (.Name x p) (e :: es) [] pos) (tCall sp [] E0 t) := by
  constructor
  intro pins s σ H Q I reading
  refine wpAny_Call_Name_kw (ld_glob I hg hm ?_ hdb)
  refine PySem.W.callWith_K (h₀ := X.base) I.ok.mod.kin hk (thn (ha.run pos pins s σ H _ I reading) fun us s1 got => ?_) (star1 he) (starAll hes)
  obtain ⟨vs, H1, I1, rel, promise⟩ := got
  rw [List.append_nil] at promise
  refine ⟨I1.kIn, ?_⟩
  have len : us.length = ps.length := by
    rw [← rel.length]
    exact F.arity _ _ _ _ promise
  have bd := hb s1 us I1.kIn (by rw [List.append_nil]; exact len)
  rw [List.append_nil] at bd
  refine wpAny_call (codeAny_mono (F.go X.A X.stack s1 H1 ⟨us, []⟩ us vs Q E0 quiet hr I1.env0 bd rel promise) fun r s' out => ?_)
  match r, out with
  | .ok (.ret u), out => exact I1.after out
  | .ok .next, out => exact out.elim
  | .ok .brk, out => exact out.elim
  | .ok .cont, out => exact out.elim
  | .error _, out => exact out.elim
end
/-! ### the law's own call -/
section
variable {P : Program} {w : World} {K : PySem.W.Frag} {mg mb : Str → Option Value} {k : Nat} {fa a : Addr} {fd : FuncData} {x : Str} {sp : Sp} {s : Shared} {vals : List Value} {ns : List Int}
/-- from an abstract heap that tracks the script at most -/
theorem law_from (kin : K.In s.heap) (glob : s.heap.Ns mainGlobals mg) (blt : s.heap.Ns builtinsNs mb) (boot : ∀ x : Str, x ≠ "__name__" → mb x = bootBuiltins x) (nolim : s.heap.NoLimit) (gens : s.gens = #[])
    (script : s.heap.get? a = some { cls := .type "list", data := .seq vals.toArray }) (room : Room k callerA) (F : ∀ base : Heap, K.In base → base.Ns mainGlobals mg → FnG P w K mg base k fa fd [x] sp)
    (bind : ∀ (s : Shared) (u : Value), BindsTo s fd ⟨[u], []⟩ [(x, u)]) (H : Hp) (only : Only H) (promise : sp [.ref a] H (fun v _ => v = .bl true) E0) (hok : HOk P w H s.heap) (just : ∀ b, H b ≠ none → b = a) (off : H a ≠ none → K.lookup a = none) :
    codeAny (model P w) callerA (.call (.ref fa) ⟨[.ref a], []⟩) (fun r s' => r = .ok (.ret (.bool true)) ∧ OldK s.heap s'.heap ∧ s'.os = s.os ∧ AllBare s'.gens) s := by
  have free : ∀ {b : Addr} {o : Obj}, s.heap.get? b = some o → (∀ its n, o.data ≠ .seq its n) → H b = none := by
    intro b o e nseq
    cases hb : H b with
    | none => rfl
    | some u =>
      exfalso
      have eb := just b (by rw [hb]; exact fun z => by cases z)
      subst eb
      rw [script] at e
      cases e
      exact nseq _ _ rfl
  have ns' : ∀ {b : Addr} {m : Str → Option Value}, s.heap.Ns b m → (hidT s.heap H).Ns b m := by
    intro b m h
    obtain ⟨o, es, ep, e, d, r⟩ := h
    exact ⟨o, es, ep, hidT_get e (free e (fun its n z => by rw [d] at z; cases z)), d, r⟩
  have kin' : K.In (hidT s.heap H) := by
    intro b o e
    refine hidT_get (kin b o e) ?_
    cases hb : H b with
    | none => rfl
    | some u =>
      exfalso
      have eb := just b (by rw [hb]; exact fun z => by cases z)
      subst eb
      rw [off (by rw [hb]; exact fun z => by cases z)] at e
      cases e
  have env0 : Env0 P w K mg (hidT s.heap H) callerA [] s H := by
    refine ⟨rfl, ⟨kin', ns' glob, ⟨mb, ns' blt, boot⟩, ?_⟩, fun b o e => of_hidT e, Nat.le_of_eq (hidT_size _ _), trivial, fun b hb => ?_, hok, .of_eq gens⟩
    · obtain ⟨mc, h1, h2⟩ := nolim
      exact ⟨mc, ns' h1, h2⟩
    · exact absurd (show b ∈ ([] : List Addr) from hb) (by simp)
  have run := (F _ kin' (ns' glob)).go callerA [] s H ⟨[.ref a], []⟩ [.ref a] [.ref a] _ _ rfl room env0 (bind s (.ref a)) (.cons rfl .nil) promise
  refine codeAny_mono run fun r s' out => ?_
  match r, out with
  | .error _, out => exact out.elim
  | .ok .next, out => exact out.elim
  | .ok .brk, out => exact out.elim
  | .ok .cont, out => exact out.elim
  | .ok (.ret u), out =>
    obtain ⟨v, H', os, bare, un, hok', ru, hv⟩ := out
    have ev : v = .bl true := hv
    subst ev
    have eu : u = Value.bool true := ru
    subst eu
    refine ⟨rfl, OldK.of_keep fun b o e => ?_, os, bare⟩
    cases hb : H b with
    | none => exact un.keep b o e hb (fun z => absurd (show b ∈ ([] : List Addr) from z) (by simp)) (by simp)
    | some q =>
      cases only b with
      | inl z =>
        rw [hb] at z
        cases z
      | inr z =>
        obtain ⟨ob, xs, z⟩ := z
        have was := (hok b _ z).1
        have now := (hok' b _ (un.frzs b ob _ z)).1
        rw [e] at was
        cases was
        exact now
theorem law_g (kin : K.In s.heap) (glob : s.heap.Ns mainGlobals mg) (blt : s.heap.Ns builtinsNs mb) (boot : ∀ x : Str, x ≠ "__name__" → mb x = bootBuiltins x) (nolim : s.heap.NoLimit) (gens : s.gens = #[])
    (script : s.heap.get? a = some { cls := .type "list", data := .seq vals.toArray }) (whole : PyProof.Rows.IntsAre vals ns) (few : ns.length ≤ sizeLine) (room : Room k callerA) (F : ∀ base : Heap, K.In base → base.Ns mainGlobals mg → FnG P w K mg base k fa fd [x] sp)
    (bind : ∀ (s : Shared) (u : Value), BindsTo s fd ⟨[u], []⟩ [(x, u)]) (promise : ∀ H : Hp, Only H → SqL K H a (ns.map V.int) → sp [.ref a] H (fun v _ => v = .bl true) E0) :
    codeAny (model P w) callerA (.call (.ref fa) ⟨[.ref a], []⟩) (fun r s' => r = .ok (.ret (.bool true)) ∧ OldK s.heap s'.heap ∧ s'.os = s.os ∧ AllBare s'.gens) s := by
  have rel := vals_ints whole
  have many := whole.length
  cases own : K.lookup a with
  | some o =>
    have e := kin a o own
    rw [script] at e
    cases e
    have only : Only (fun _ => none) := fun _ => Or.inl rfl
    refine law_from kin glob blt boot nolim gens script room F bind (fun _ => none) only (promise _ only ?_) (fun b u z => ?_) (fun b z => absurd rfl z) (fun z => absurd rfl z)
    · exact Or.inr ⟨_, vals.toArray, _, own, rfl, rfl, rfl, by rw [List.size_toArray, many]; exact few, by simpa using rel⟩
    · exact absurd (show (none : Option HO) = some u from z) (fun z => by cases z)
  | none =>
    have at_a : ∀ {b : Addr}, b = a → (fun b => if b = a then some (HO.frz { cls := .type "list", data := .seq vals.toArray } (.lst (ns.map V.int))) else none) b = some (HO.frz { cls := .type "list", data := .seq vals.toArray } (.lst (ns.map V.int))) := fun h => if_pos h
    have off_a : ∀ {b : Addr}, b ≠ a → (fun b => if b = a then some (HO.frz { cls := .type "list", data := .seq vals.toArray } (.lst (ns.map V.int))) else none) b = none := fun h => if_neg h
    have only : Only (fun b => if b = a then some (HO.frz { cls := .type "list", data := .seq vals.toArray } (.lst (ns.map V.int))) else none) := fun b => by
      by_cases hb : b = a
      · exact Or.inr ⟨_, _, at_a hb⟩
      · exact Or.inl (off_a hb)
    refine law_from kin glob blt boot nolim gens script room F bind _ only (promise _ only (Or.inl (Or.inr ⟨_, at_a rfl⟩))) (fun b u z => ?_) (fun b z => ?_) (fun _ => own)
    · by_cases hb : b = a
      · have e := (at_a hb).symm.trans z
        cases e
        subst hb
        exact ⟨script, by rw [List.length_map]; exact few, vals, _, rel, script⟩
      · have e := (off_a hb).symm.trans z
        cases e
    · by_cases hb : b = a
      · exact hb
      · exact absurd (off_a hb) z
end
/-- the goal that the head leaves, from the law's promise -/
theorem walk_g {l : PySem.W.OpenLaw} {n k : Nat} {q : Program} {loose : List Str} {XP : (Str → Option Value) → Heap → Prop} {YP : World → Heap → Prop} {d : DefRec} {K : Params → PySem.W.Frag} {sp : PySem.W.Frag → Sp} {x : Str}
    (hn : l.most = some n) (few : n ≤ sizeLine) (hdf : d.params.defaults = []) (room : Room k callerA) (hY : ∀ (w : World) (h : Heap), YP w h → (K w.params).In h)
    (F : ∀ (w : World) (mg : Str → Option Value) (fa : Addr) (h : Heap), (K w.params).In h → h.Ns mainGlobals mg → mg d.name = some (.ref fa) →
      ∃ fd : FuncData, (∀ (s : Shared) (u : Value), BindsTo s fd ⟨[u], []⟩ [(x, u)]) ∧ ∀ base : Heap, (K w.params).In base → base.Ns mainGlobals mg → FnG l.prog w (K w.params) mg base k fa fd [x] (sp (K w.params)))
    (promise : ∀ (K : PySem.W.Frag) (H : Hp) (a : Addr) (ns : List Int), ns.length ≤ n → SqL K H a (ns.map V.int) → sp K [.ref a] H (fun v _ => v = .bl true) E0) :
    PySem.W.WalkO q loose XP YP l.row.toRowW d [] (fun f vs => PySem.call f vs) := by
  refine Att.attach_call hn hdf fun w s₀ s₁ mg mb fa o pm cd doc a vs ns G Y ho hd hcd hmg hobj hints hlen hg => ?_
  have kin := hY w _ Y
  obtain ⟨fd, bind, made⟩ := F w mg fa _ kin G.T.g hmg
  exact law_g kin G.T.g G.T.b G.T.builtins G.T.nolimit hg hobj hints (Nat.le_trans hlen few) room made bind fun H _ hS => promise _ H a ns hlen hS
end NL

/-! plans as trees, and as they lie in the heap -/
namespace NL
open PySem L2 Evl
inductive Tr where
  | hand (n : Str)
  | grp (n : Str) (b : Int) (ms : List Tr)
/-- name, whether it is a group, the groups around it -/
abbrev Rw := Str × Bool × List Str
mutual
def Tr.told : Tr → List Str → List Rw
  | .hand n, p => [(n, false, p)]
  | .grp n _ ms, p => (n, true, p) :: tolds ms (n :: p)
def tolds : List Tr → List Str → List Rw
  | [], _ => []
  | t :: ts, p => t.told p ++ tolds ts p
end
mutual
def Tr.size : Tr → Nat
  | .hand _ => 1
  | .grp _ _ ms => sizes ms + 1
def sizes : List Tr → Nat
  | [] => 0
  | t :: ts => t.size + sizes ts
end
mutual
def Tr.deep : Tr → Nat
  | .hand _ => 0
  | .grp _ _ ms => deeps ms + 1
def deeps : List Tr → Nat
  | [] => 0
  | t :: ts => max t.deep (deeps ts)
end
mutual
theorem told_len : ∀ (t : Tr) (p : List Str), (t.told p).length = t.size
  | .hand n, p => by simp [Tr.told, Tr.size]
  | .grp n b ms, p => by simp [Tr.told, Tr.size, tolds_len ms]
theorem tolds_len : ∀ (ts : List Tr) (p : List Str), (tolds ts p).length = sizes ts
  | [], p => by simp [tolds, sizes]
  | t :: ts, p => by simp [tolds, sizes, told_len t, tolds_len ts]
end
mutual
inductive TrV (H : Hp) : V → Tr → Prop
  | hand (n : Str) : TrV H (.str n) (.hand n)
  | grp {a m : Addr} {n : Str} {b : Int} {xs : List V} {ms : List Tr} : H a = some (.tup [.str n, .int b, .ref m]) → H m = some (.tup xs) → TrVs H xs ms → TrV H (.ref a) (.grp n b ms)
inductive TrVs (H : Hp) : List V → List Tr → Prop
  | nil : TrVs H [] []
  | cons {v : V} {vs : List V} {t : Tr} {ts : List Tr} : TrV H v t → TrVs H vs ts → TrVs H (v :: vs) (t :: ts)
end
/-- tuples stay -/
def TK (H H' : Hp) : Prop := ∀ a xs, H a = some (.tup xs) → H' a = some (.tup xs)
theorem TK.refl (H : Hp) : TK H H := fun _ _ e => e
theorem TK.trans {H H1 H2 : Hp} (a : TK H H1) (b : TK H1 H2) : TK H H2 := fun x o e => b x o (a x o e)
theorem TK.ex {H H' : Hp} (e : Ex H H') : TK H H' := fun a xs h => e a _ h
theorem TK.put {H : Hp} {p : Addr} {o : HO} (h : ∀ xs, H p ≠ some (.tup xs)) : TK H (upd H p o) := fun a xs e => by
  rw [upd_ne (fun z => by subst z; exact h _ e)]
  exact e
theorem TK.lst {H : Hp} {p : Addr} {o : HO} {ys : List V} (h : H p = some (.lst ys)) : TK H (upd H p o) := TK.put fun xs e => by rw [h] at e; cases e
theorem TK.new {H : Hp} {p : Addr} {o : HO} (h : H p = none) : TK H (upd H p o) := TK.put fun xs e => by rw [h] at e; cases e
mutual
theorem trv_tk {H H' : Hp} (k : TK H H') : ∀ (t : Tr) (v : V), TrV H v t → TrV H' v t
  | .hand n, _, h => by cases h; exact .hand n
  | .grp n b ms, _, h => by
    cases h with
    | grp h1 h2 h3 => exact .grp (k _ _ h1) (k _ _ h2) (trvs_tk k ms _ h3)
theorem trvs_tk {H H' : Hp} (k : TK H H') : ∀ (ts : List Tr) (vs : List V), TrVs H vs ts → TrVs H' vs ts
  | [], _, h => by cases h; exact .nil
  | t :: ts, _, h => by
    cases h with
    | cons h1 h2 => exact .cons (trv_tk k t _ h1) (trvs_tk k ts _ h2)
end
theorem trvs_get {H : Hp} : ∀ {vs : List V} {ts : List Tr} {i : Nat} {v : V}, TrVs H vs ts → vs[i]? = some v → ∃ t, ts[i]? = some t ∧ TrV H v t
  | _, _, _, _, .nil, e => by simp at e
  | _, _, 0, _, .cons r _, e => by simp at e; subst e; exact ⟨_, rfl, r⟩
  | _, _, i + 1, v, .cons _ t, e => by
    obtain ⟨d, h1, h2⟩ := trvs_get (i := i) (v := v) t (by simpa using e)
    exact ⟨d, by simpa using h1, h2⟩
theorem trvs_len {H : Hp} : ∀ {vs : List V} {ts : List Tr}, TrVs H vs ts → vs.length = ts.length
  | _, _, .nil => rfl
  | _, _, .cons _ t => by rw [List.length_cons, List.length_cons, trvs_len t]
theorem tolds_take : ∀ (ts : List Tr) (i : Nat) (t : Tr) (p : List Str), ts[i]? = some t → tolds (ts.take (i + 1)) p = tolds (ts.take i) p ++ t.told p
  | [], _, _, _, h => by simp at h
  | u :: ts, 0, t, p, h => by
    simp at h
    subst h
    simp [tolds]
  | u :: ts, i + 1, t, p, h => by
    have ih := tolds_take ts i t p (by simpa using h)
    simp only [List.take_succ_cons, tolds]
    rw [ih, List.append_assoc]
theorem sizes_mem : ∀ {ts : List Tr} {i : Nat} {t : Tr}, ts[i]? = some t → t.size ≤ sizes ts
  | [], _, _, h => by simp at h
  | u :: ts, 0, t, h => by simp at h; subst h; simp [sizes]
  | u :: ts, i + 1, t, h => by
    have := sizes_mem (ts := ts) (i := i) (t := t) (by simpa using h)
    simp only [sizes]
    omega
theorem deeps_mem : ∀ {ts : List Tr} {i : Nat} {t : Tr}, ts[i]? = some t → t.deep ≤ deeps ts
  | [], _, _, h => by simp at h
  | u :: ts, 0, t, h => by simp at h; subst h; simp only [deeps]; exact Nat.le_max_left _ _
  | u :: ts, i + 1, t, h => by
    have := deeps_mem (ts := ts) (i := i) (t := t) (by simpa using h)
    simp only [deeps]
    exact Nat.le_trans this (Nat.le_max_right _ _)
theorem sizes_take : ∀ (ts : List Tr) (i : Nat), sizes (ts.take i) ≤ sizes ts
  | [], i => by simp [sizes]
  | t :: ts, 0 => by simp [sizes]
  | t :: ts, i + 1 => by
    have := sizes_take ts i
    simp only [List.take_succ_cons, sizes]
    omega
/-- a row of a tale of a plan, in the heap -/
def RowT (H : Hp) (v : V) (r : Rw) : Prop := ∃ a pa, v = .ref a ∧ H a = some (.tup [.str r.1, .bl r.2.1, .ref pa]) ∧ H pa = some (.tup (r.2.2.map V.str))
inductive Rows (H : Hp) : List V → List Rw → Prop
  | nil : Rows H [] []
  | cons {v : V} {vs : List V} {r : Rw} {rs : List Rw} : RowT H v r → Rows H vs rs → Rows H (v :: vs) (r :: rs)
theorem RowT.tk {H H' : Hp} {v : V} {r : Rw} (k : TK H H') (h : RowT H v r) : RowT H' v r := by
  obtain ⟨a, pa, e, h1, h2⟩ := h
  exact ⟨a, pa, e, k _ _ h1, k _ _ h2⟩
theorem Rows.tk {H H' : Hp} (k : TK H H') : ∀ {vs : List V} {rs : List Rw}, Rows H vs rs → Rows H' vs rs
  | _, _, .nil => .nil
  | _, _, .cons a b => .cons (a.tk k) (b.tk k)
theorem Rows.app {H : Hp} : ∀ {vs us : List V} {rs qs : List Rw}, Rows H vs rs → Rows H us qs → Rows H (vs ++ us) (rs ++ qs)
  | _, _, _, _, .nil, h => h
  | _, _, _, _, .cons a b, h => .cons a (b.app h)
theorem Rows.one {H : Hp} {v : V} {r : Rw} (h : RowT H v r) : Rows H [v] [r] := .cons h .nil
theorem Rows.len {H : Hp} : ∀ {vs : List V} {rs : List Rw}, Rows H vs rs → vs.length = rs.length
  | _, _, .nil => rfl
  | _, _, .cons _ t => by rw [List.length_cons, List.length_cons, t.len]
theorem Rows.get {H : Hp} : ∀ {vs : List V} {rs : List Rw} {i : Nat} {v : V}, Rows H vs rs → vs[i]? = some v → ∃ r, rs[i]? = some r ∧ RowT H v r
  | _, _, _, _, .nil, e => by simp at e
  | _, _, 0, _, .cons r _, e => by simp at e; subst e; exact ⟨_, rfl, r⟩
  | _, _, i + 1, v, .cons _ t, e => by
    obtain ⟨d, h1, h2⟩ := t.get (i := i) (v := v) (by simpa using e)
    exact ⟨d, by simpa using h1, h2⟩
/-- isinstance(x, T), by the thing's kind -/
theorem ev_isK {K : PySem.W.Frag} {σ : L2.St} {H : Hp} {ta : TE} {x : V} {T S : String} {b : Bool} (ha : Ev ta σ H x) (ty : ∀ H2, Ex H H2 → TyX K H2 x (.type S)) (hk : kitB S T = some b) : Ev (tCB (rIsi K) (tCons ta (tCons (tC (.ty T)) tNil))) σ H (.bl b) := fun H1 e Q q =>
  ha H1 e _ fun H2 e2 => ⟨x, .ty T, _, _, b, rfl, .ty T, ty H2 (e.trans e2), kit_ty hk, q H2 e2⟩
theorem q_asgG {te : TE} {g : TG} {tz : TS} {D : Ends} {σ : L2.St} {H : Hp} (h : te σ H fun x H1 => g x σ H1 fun σ2 H2 => tz D σ2 H2) : tSeq (tAsg te g) tz D σ H := h
def Tr.isHand : Tr → Bool
  | .hand _ => true
  | _ => false
theorem ev_isHand {K : PySem.W.Frag} {σ : L2.St} {H : Hp} {ta : TE} {x : V} {t : Tr} (ha : Ev ta σ H x) (h : TrV H x t) : Ev (tCB (rIsi K) (tCons ta (tCons (tC (.ty "str")) tNil))) σ H (.bl t.isHand) := by
  cases h with
  | hand n => exact ev_isK ha (fun H2 _ => .base (.str n)) (by decide +kernel : kitB "str" "str" = some true)
  | grp h1 h2 h3 => exact ev_isK ha (fun H2 e => .base (.tup (e _ _ h1))) (by decide +kernel : kitB "tuple" "str" = some false)
theorem find_at {α : Type} {p : α → Bool} : ∀ {rs : List α} {i : Nat} {r : α}, (∀ x ∈ rs.take i, p x = false) → rs[i]? = some r → p r = true → rs.find? p = some r
  | [], _, _, _, h, _ => by simp at h
  | x :: rs, 0, r, _, h, hp => by
    simp at h
    subst h
    simp [List.find?_cons, hp]
  | x :: rs, i + 1, r, hn, h, hp => by
    have h0 := hn x (by simp)
    have := find_at (p := p) (rs := rs) (i := i) (r := r) (fun y hy => hn y (by simp [hy])) (by simpa using h) hp
    simp [List.find?_cons, h0, this]
theorem find_none {α : Type} {p : α → Bool} {rs : List α} (h : ∀ x ∈ rs, p x = false) : rs.find? p = none := by
  rw [List.find?_eq_none]
  intro x hx
  rw [h x hx]
  decide
theorem filter_take {α : Type} {p : α → Bool} {rs : List α} {i : Nat} {r : α} (h : rs[i]? = some r) : (rs.take (i + 1)).filter p = (rs.take i).filter p ++ (if p r = true then [r] else []) := by
  rw [List.take_succ, h, List.filter_append]
  simp [List.filter_cons]
/-! ### names -/
def letter (c : Nat) : Bool := decide (97 ≤ c) && decide (c ≤ 122)
def nameOk (s : Str) : Prop := 1 ≤ s.length ∧ s.length ≤ 8 ∧ ∀ c ∈ s.cps.toList, 97 ≤ c ∧ c ≤ 122
def midOf (k : Nat) : List Nat := if k = 0 then [] else if k = 1 then [113] else [120]
/-- the name of a spot, as codes -/
def spotL (s : Nat) (stem : List Nat) : List Nat := (97 + s % 26) :: (midOf (s / 26) ++ stem)
theorem spot_inj {s s' : Nat} {stem : List Nat} (h1 : s < 60) (h2 : s' < 60) (h : spotL s stem = spotL s' stem) : s = s' := by
  unfold spotL at h
  have ha : s % 26 = s' % 26 := by
    have := (List.cons.inj h).1
    omega
  have hb := (List.cons.inj h).2
  have hc : midOf (s / 26) = midOf (s' / 26) := List.append_cancel_right hb
  have hd : s / 26 = s' / 26 := by
    have c1 : s / 26 = 0 ∨ s / 26 = 1 ∨ s / 26 = 2 := by omega
    have c2 : s' / 26 = 0 ∨ s' / 26 = 1 ∨ s' / 26 = 2 := by omega
    rcases c1 with c1 | c1 | c1 <;> rcases c2 with c2 | c2 | c2 <;> rw [c1, c2] at hc ⊢ <;> simp [midOf] at hc
  omega
theorem spot_letters {s : Nat} {stem : List Nat} (hs : ∀ c ∈ stem, 97 ≤ c ∧ c ≤ 122) : ∀ c ∈ spotL s stem, 97 ≤ c ∧ c ≤ 122 := by
  intro c hc
  unfold spotL at hc
  rcases List.mem_cons.mp hc with rfl | hc
  · omega
  · rcases List.mem_append.mp hc with hc | hc
    · unfold midOf at hc
      split at hc
      · cases hc
      · split at hc
        · simp at hc; omega
        · simp at hc; omega
    · exact hs c hc
theorem spot_len (s : Nat) (stem : List Nat) : (spotL s stem).length ≤ stem.length + 2 ∧ 1 ≤ (spotL s stem).length := by
  unfold spotL midOf
  simp only [List.length_cons, List.length_append]
  split
  · simp
  · split <;> simp <;> omega
theorem nodup_set {xs : List Str} {w : Str} (h : xs.Nodup) (hw : w ∉ xs) : ∀ j : Nat, (xs.set j w).Nodup := by
  induction xs with
  | nil => intro j; simp
  | cons x xs ih =>
    intro j
    have hx := List.nodup_cons.mp h
    cases j with
    | zero =>
      simp only [List.set_cons_zero]
      exact List.nodup_cons.mpr ⟨fun z => hw (List.mem_cons_of_mem _ z), hx.2⟩
    | succ j =>
      simp only [List.set_cons_succ]
      refine List.nodup_cons.mpr ⟨fun z => ?_, ih hx.2 (fun z => hw (List.mem_cons_of_mem _ z)) j⟩
      rcases List.mem_or_eq_of_mem_set z with z | z
      · exact hx.1 z
      · exact hw (by rw [← z]; exact List.mem_cons_self ..)
theorem map_nodup {α : Type} {f : Nat → α} {n : Nat} (h : ∀ i j, i < n → j < n → f i = f j → i = j) : ((List.range n).map f).Nodup := by
  unfold List.Nodup
  rw [List.pairwise_map]
  refine List.Pairwise.imp_of_mem (fun {a b} ha hb hab => ?_) (List.nodup_range (n := n))
  intro e
  exact hab (h a b (List.mem_range.mp ha) (List.mem_range.mp hb) e)
theorem q_parP {i j : Nat} {ta : TA} {tz : TS} {D : Ends} {σ : L2.St} {H : Hp} (h : ta σ H fun vs H1 => ∃ v w, vs = [v, w] ∧ tz D ((σ.set i (some v)).set j (some w)) H1) : tSeq (tPar i j ta) tz D σ H := h
theorem in_strs {x : Str} {xs : List Str} : inV (.str x) (xs.map V.str) = decide (x ∈ xs) := by
  unfold inV
  rw [List.any_map]
  rw [Bool.eq_iff_iff, List.any_eq_true, decide_eq_true_eq]
  constructor
  · intro ⟨y, hy, e⟩
    have : y = x := by simpa [eqV] using e
    subst this
    exact hy
  · intro h
    exact ⟨x, h, by simp [eqV]⟩
theorem flat_strs (xs : List Str) : (xs.map V.str).all flatV = true := by
  rw [List.all_map, List.all_eq_true]
  intro x _
  rfl
theorem tYesQ {σ : L2.St} {H : Hp} {A B : Hp → Prop} (h : A H) : tYes σ H fun b H3 => if b = true then A H3 else B H3 := by
  show if true = true then A H else B H
  rw [if_pos rfl]
  exact h
/-- a loop over a new tuple -/
theorem q_forTu {K : PySem.W.Frag} {σ : L2.St} {H : Hp} {xs : List V} {tl : TE} {j : Nat} {tu tz : TS} {D : Ends} (h : EvU tl σ H xs) (Pv : Addr → Nat → L2.St → Hp → Prop) (h0 : ∀ p H1, H p = none → Ex H H1 → H1 p = some (.tup xs) → Pv p 0 σ H1) (hl : ∀ p i σ' H', i ≤ xs.length → Pv p i σ' H' → SqT K H' p xs)
    (hs : ∀ p i x σ' H', xs[i]? = some x → Pv p i σ' H' → tu { D with nx := Pv p (i + 1), ct := Pv p (i + 1), bk := tz D } (σ'.set j (some x)) H') (hd : ∀ p σ' H', Pv p xs.length σ' H' → tz D σ' H') : tSeq (tFor (iTup K tl) (gName j) tu) tz D σ H := by
  refine h H (Ex.refl H) _ fun p H1 fresh e at_p => ?_
  exact ⟨p, rfl, ⟨xs, st_of at_p⟩, for_tup (Pv p) (h0 p H1 fresh e at_p) (hl p) (hs p) (hd p)⟩
/-! ### names of a tree -/
mutual
def Tr.nms : Tr → List Str
  | .hand n => [n]
  | .grp n _ ms => n :: nmss ms
def nmss : List Tr → List Str
  | [] => []
  | t :: ts => t.nms ++ nmss ts
end
mutual
theorem told_nms : ∀ (t : Tr) (p : List Str), (t.told p).map (·.1) = t.nms
  | .hand n, p => by simp [Tr.told, Tr.nms]
  | .grp n b ms, p => by simp [Tr.told, Tr.nms, tolds_nms ms]
theorem tolds_nms : ∀ (ts : List Tr) (p : List Str), (tolds ts p).map (·.1) = nmss ts
  | [], p => by simp [tolds, nmss]
  | t :: ts, p => by simp [tolds, nmss, told_nms t, tolds_nms ts]
end
theorem nms_len (t : Tr) : t.nms.length = t.size := by rw [← told_nms t [], List.length_map, told_len]
theorem nmss_len (ts : List Tr) : (nmss ts).length = sizes ts := by rw [← tolds_nms ts [], List.length_map, tolds_len]
theorem nmss_app : ∀ (ts us : List Tr), nmss (ts ++ us) = nmss ts ++ nmss us
  | [], us => by simp [nmss]
  | t :: ts, us => by simp [nmss, nmss_app ts us]
theorem sizes_app : ∀ (ts us : List Tr), sizes (ts ++ us) = sizes ts + sizes us
  | [], us => by simp [sizes]
  | t :: ts, us => by simp [sizes, sizes_app ts us]; omega
theorem deeps_app : ∀ (ts us : List Tr), deeps (ts ++ us) = max (deeps ts) (deeps us)
  | [], us => by simp [deeps]
  | t :: ts, us => by simp [deeps, deeps_app ts us, Nat.max_assoc]
theorem trvs_app {H : Hp} : ∀ {vs us : List V} {ts qs : List Tr}, TrVs H vs ts → TrVs H us qs → TrVs H (vs ++ us) (ts ++ qs)
  | _, _, _, _, .nil, h => h
  | _, _, _, _, .cons a b, h => .cons a (trvs_app b h)
mutual
def Tr.ok : Tr → Prop
  | .hand _ => True
  | .grp _ b ms => 1 ≤ b ∧ b ≤ 99999999 ∧ ms ≠ [] ∧ oks ms
def oks : List Tr → Prop
  | [] => True
  | t :: ts => t.ok ∧ oks ts
end
theorem oks_app : ∀ {ts us : List Tr}, oks ts → oks us → oks (ts ++ us)
  | [], _, _, h => h
  | _ :: _, _, a, h => by
    simp only [oks, List.cons_append] at a ⊢
    exact ⟨a.1, oks_app a.2 h⟩
/-- how many names a member takes at most -/
def mem : Nat → Nat → Nat
  | 0, _ => 1
  | d + 1, w => 1 + w * mem d w
theorem mem_pos : ∀ d w, 1 ≤ mem d w
  | 0, _ => by simp [mem]
  | d + 1, w => by simp [mem]
/-- all stays but the hand and one list -/
def Kn (h l m : Addr) (H H' : Hp) : Prop := ∀ a o, a ≠ h → a ≠ l → a ≠ m → H a = some o → H' a = some o
theorem Kn.refl (h l m : Addr) (H : Hp) : Kn h l m H H := fun _ _ _ _ _ e => e
theorem Kn.trans {h l m : Addr} {H H1 H2 : Hp} (a : Kn h l m H H1) (b : Kn h l m H1 H2) : Kn h l m H H2 := fun x o n1 n2 n3 e => b x o n1 n2 n3 (a x o n1 n2 n3 e)
theorem Kn.kp {h l m : Addr} {H H1 : Hp} (a : Kp h l H H1) : Kn h l m H H1 := fun x o n1 n2 _ e => a x o n1 n2 e
theorem Kn.ex {h l m : Addr} {H H1 : Hp} (a : Ex H H1) : Kn h l m H H1 := fun x o _ _ _ e => a x o e
theorem Kn.put {h l m : Addr} {H H1 : Hp} {o : HO} (a : Kn h l m H H1) : Kn h l m H (upd H1 m o) := fun x u n1 n2 n3 e => by
  rw [upd_ne n3]
  exact a x u n1 n2 n3 e
theorem Kn.mut {h l m p : Addr} {H H1 : Hp} {o : HO} (a : Kn h l m H H1) (hp : H p = none) : Kn h l m H (upd H1 p o) := fun x u n1 n2 n3 e => by
  rw [upd_ne (fun z => by subst z; rw [hp] at e; cases e)]
  exact a x u n1 n2 n3 e
theorem Kn.tk {h l m : Addr} {H H1 : Hp} {ys : List V} (A : Hand H h l) (hm : H m = some (.lst ys)) (a : Kn h l m H H1) : TK H H1 := fun x xs e => by
  obtain ⟨n1, n2⟩ := A.off e (fun _ z => by cases z)
  exact a x _ n1 n2 (fun z => by subst z; rw [hm] at e; cases e) e
theorem q_forU {wi : TI} {g : TG} {tb tz : TS} {D : Ends} {σ : L2.St} {H : Hp} (h : wi σ H fun J H1 => ∃ W : Nat → Nat → L2.St → Hp → Prop, (∃ m, W 0 m σ H1) ∧ ∀ i m σ H, W i m σ H →
    (J.stop i H ∧ tz D σ H) ∨ (J.go i H ∧ ∃ N : L2.St → Hp → Prop, (∀ σ' H', N σ' H' → ∃ m', m' < m ∧ W (i + 1) m' σ' H') ∧ ∀ x H', J.yld i H x H' → g x σ H' fun σ2 H2 => tb { D with nx := N, ct := N, bk := tz D } σ2 H2)) : tSeq (tFor wi g tb) tz D σ H := h
theorem rng_turns {g : TG} {tb tz : TS} {D : Ends} {σ : L2.St} {H : Hp} {n : Nat} (Pv : Nat → L2.St → Hp → Prop) (h0 : Pv 0 σ H) (hs : ∀ (i : Nat) σ' H', i < n → Pv i σ' H' → g (.int (0 + (i : Int))) σ' H' fun σ2 H2 => tb { D with nx := Pv (i + 1), ct := Pv (i + 1), bk := tz D } σ2 H2) (hd : ∀ σ' H', Pv n σ' H' → tz D σ' H') :
    ∃ W : Nat → Nat → L2.St → Hp → Prop, (∃ m, W 0 m σ H) ∧ ∀ i m σ H, W i m σ H →
    ((Itr 0 n).stop i H ∧ tz D σ H) ∨ ((Itr 0 n).go i H ∧ ∃ N : L2.St → Hp → Prop, (∀ σ' H', N σ' H' → ∃ m', m' < m ∧ W (i + 1) m' σ' H') ∧ ∀ x H', (Itr 0 n).yld i H x H' → g x σ H' fun σ2 H2 => tb { D with nx := N, ct := N, bk := tz D } σ2 H2) :=
  for_range (lo := 0) (n := n) (D := { D with nx := tz D }) Pv h0 hs hd
theorem last_of {xs : List Str} (h : 1 ≤ xs.length) : ∃ ys n, xs = ys ++ [n] := by
  refine ⟨xs.dropLast, xs.getLast (fun z => by subst z; simp at h), ?_⟩
  exact (List.dropLast_concat_getLast _).symm
theorem last_get (ys : List Str) (n : Str) : ((ys ++ [n]).map V.str)[((ys ++ [n]).map V.str).length - 1]? = some (.str n) := by
  simp
theorem last_drop (ys : List Str) (n : Str) : ((ys ++ [n]).map V.str).dropLast = ys.map V.str := by
  rw [List.map_append]
  simp
end NL

/-! repr of what lies in the heap; plans as data -/
namespace NL
open PySem PySem.Spec PyProof.Rows L2 Evl
/-- data whose text fits -/
def shows (d : PyData) : Prop := d.showable = true ∧ d.hasDict = false ∧ d.depth ≤ 64 ∧ d.shown.length ≤ 100000
def rRepr (K : PySem.W.Frag) : List V → Hp → VK → Prop := fun xs H Q => ∃ (a : Addr) (d : PyData), xs = [.ref a] ∧ Dp K H (.ref a) d ∧ shows d ∧ Q (.str d.shown) H
theorem hu_r {k : Nat} {A : Around} (hr : Room k A) : A.units + 100 < cLine := by
  have := hr.un
  omega
theorem reprK {X : Cx} {K : PySem.W.Frag} (h : X.K = K) (quiet : X.A.guards = some []) (room : X.A.units + 100 < cLine) : CallR X (.builtin "repr") (rRepr K) := by
  subst h
  intro pins s σ H xs us Q I rel told
  obtain ⟨a, d, e, data, ⟨s1, s2, s3, s4⟩, q⟩ := told
  subst e
  obtain ⟨u, eu, ru⟩ := vals1 rel
  subst eu
  cases ru
  obtain ⟨as, reads⟩ := Dp.reads I d (.ref a) (.ref a) data rfl
  refine repr_of_reads' reads s1 (fun z => ?_) quiet (by omega) (fun b o e => e) (fun h' u tk kept => ?_) (Nat.le_trans s4 (by decide))
  · rw [s2] at z
    cases z
  · exact ⟨.str d.shown, H, I.kept kept, ⟨u, rfl⟩, q⟩
section
variable {K : PySem.W.Frag} {σ : L2.St} {H : Hp} {ta te : TE}
theorem ev_repr {a : Addr} {d : PyData} (ha : Ev ta σ H (.ref a)) (hd : Dp K H (.ref a) d) (hs : shows d) : Ev (tCB (rRepr K) (tCons ta tNil)) σ H (.str d.shown) := fun H1 e Q q =>
  ha H1 e _ fun H2 e2 => ⟨a, d, rfl, dp_mono (e.trans e2) hd, hs, q H2 e2⟩
/-- evaluates to some tuple of these things -/
def EvP (te : TE) (σ : L2.St) (H : Hp) (xs : List V) : Prop := ∀ H1, Ex H H1 → ∀ Q : VK, (∀ p H2, Ex H1 H2 → H2 p = some (.tup xs) → Q (.ref p) H2) → te σ H1 Q
theorem dpa_strs {H : Hp} : ∀ ns : List Str, DpAll K H (ns.map V.str) (ns.map PyData.str)
  | [] => .nil
  | n :: r => .cons (.str n) (dpa_strs r)
theorem ev_reprP {ns : List Str} (h : EvP te σ H (ns.map V.str)) (hs : shows (.tuple (ns.map PyData.str))) : Ev (tCB (rRepr K) (tCons te tNil)) σ H (.str (PyData.tuple (ns.map PyData.str)).shown) := fun H1 e Q q =>
  h H1 e _ fun p H2 e2 hp => ⟨p, _, rfl, .tup (st_of hp) (dpa_strs ns), hs, q H2 e2⟩
end
/-! ### how long a text is -/
theorem join_len (sep : Str) : ∀ ts : List Str, (Str.join sep ts).length ≤ (ts.map fun t => t.length + sep.length).sum
  | [] => by simp [Str.join, Str.empty, Str.length]
  | [t] => by simp [Str.join]
  | t :: u :: r => by
    have ih := join_len sep (u :: r)
    simp only [Str.join, Str.length_append, List.map_cons, List.sum_cons] at ih ⊢
    omega
theorem tuple_len (ts : List Str) : (tupleText ts).length ≤ (ts.map fun t => t.length + 2).sum + 3 := by
  unfold tupleText
  rw [Str.length_append, Str.length_append]
  have h := join_len ", " ts
  have e1 : (", " : Str).length = 2 := by decide +kernel
  have e2 : ("(" : Str).length = 1 := by decide +kernel
  rw [e1] at h
  have e3 : (Str.ofString (if (ts.length == 1) = true then ",)" else ")" : String)).length ≤ 2 := by
    split
    · decide +kernel
    · decide +kernel
  omega
theorem name_len {n : Str} (h : nameOk n) : (PyData.str n).shown.length ≤ 82 := by
  have e : (PyData.str n).shown = reprText n := by simp only [PyData.shown]
  rw [e]
  have := StrLaws.reprText_len n (fun c hc => by have := h.2.2 c hc; omega)
  have := h.2.1
  omega
theorem sum_le {α : Type} {f : α → Nat} {b : Nat} : ∀ {l : List α}, (∀ x ∈ l, f x ≤ b) → (l.map f).sum ≤ b * l.length
  | [], _ => by simp
  | x :: l, h => by
    have h1 := h x (List.mem_cons_self ..)
    have h2 := sum_le (f := f) (b := b) (l := l) (fun y hy => h y (List.mem_cons_of_mem _ hy))
    simp only [List.map_cons, List.sum_cons, List.length_cons, Nat.mul_succ]
    omega
theorem shownAll_map : ∀ ds : List PyData, PyData.shownAll ds = ds.map PyData.shown
  | [] => by simp [PyData.shownAll]
  | d :: ds => by simp [PyData.shownAll, shownAll_map ds]
theorem shows_names {ns : List Str} (h : ∀ n ∈ ns, nameOk n) (hl : ns.length ≤ 1000) : shows (.tuple (ns.map PyData.str)) := by
  refine ⟨?_, ?_, ?_, ?_⟩
  · simp only [PyData.showable]
    clear h hl
    induction ns with
    | nil => simp [PyData.showableAll]
    | cons n r ih => simp [PyData.showableAll, PyData.showable, ih]
  · simp only [PyData.hasDict]
    clear h hl
    induction ns with
    | nil => simp [PyData.hasDictAll]
    | cons n r ih => simp [PyData.hasDictAll, PyData.hasDict, ih]
  · simp only [PyData.depth]
    have : PyData.depthAll (ns.map PyData.str) = 0 := by
      clear h hl
      induction ns with
      | nil => simp [PyData.depthAll]
      | cons n r ih => simp [PyData.depthAll, PyData.depth, ih]
    omega
  · simp only [PyData.shown, shownAll_map]
    have t := tuple_len ((ns.map PyData.str).map PyData.shown)
    have s := sum_le (f := fun t : Str => t.length + 2) (b := 84) (l := (ns.map PyData.str).map PyData.shown) (fun x hx => by
      obtain ⟨d, hd, rfl⟩ := List.mem_map.mp hx
      obtain ⟨n, hn, rfl⟩ := List.mem_map.mp hd
      have := name_len (h n hn)
      omega)
    simp only [List.length_map] at s
    omega
/-! ### a plan as a datum -/
mutual
def Tr.dat : Tr → PyData
  | .hand n => .str n
  | .grp n b ms => .tuple [.str n, .int b, .tuple (dats ms)]
def dats : List Tr → List PyData
  | [] => []
  | t :: ts => t.dat :: dats ts
end
mutual
theorem trv_dp {K : PySem.W.Frag} {H : Hp} : ∀ (t : Tr) (v : V), TrV H v t → Dp K H v t.dat
  | .hand n, _, h => by cases h; simp only [Tr.dat]; exact .str n
  | .grp n b ms, _, h => by
    cases h with
    | grp h1 h2 h3 =>
      simp only [Tr.dat]
      exact .tup (st_of h1) (.cons (.str n) (.cons (.int b) (.cons (.tup (st_of h2) (trvs_dp ms _ h3)) .nil)))
theorem trvs_dp {K : PySem.W.Frag} {H : Hp} : ∀ (ts : List Tr) (vs : List V), TrVs H vs ts → DpAll K H vs (dats ts)
  | [], _, h => by cases h; simp only [dats]; exact .nil
  | t :: ts, _, h => by
    cases h with
    | cons h1 h2 =>
      simp only [dats]
      exact .cons (trv_dp t _ h1) (trvs_dp ts _ h2)
end
theorem ok_lay {n : Str} (h : nameOk n) : PyData.strOk n = true := by
  unfold PyData.strOk
  rw [Array.all_eq_true']
  intro c hc
  have := h.2.2 c (by simpa using hc)
  simp
  omega
mutual
theorem dat_facts : ∀ (t : Tr), (∀ n ∈ t.nms, nameOk n) → t.ok → t.dat.canLay0 = true ∧ t.dat.depth ≤ 2 * t.deep ∧ t.dat.showable = true ∧ t.dat.hasDict = false ∧ t.dat.shown.length + 2 ≤ 150 * t.size
  | .hand n, h, _ => by
    have hn := h n (by simp [Tr.nms])
    have := name_len hn
    simp only [Tr.dat, Tr.deep, Tr.size]
    refine ⟨by simp only [PyData.canLay0]; exact ok_lay hn, by simp [PyData.depth], by simp [PyData.showable], by simp [PyData.hasDict], by omega⟩
  | .grp n b ms, h, ho => by
    have hn := h n (by simp [Tr.nms])
    have hb := name_len hn
    simp only [Tr.ok] at ho
    obtain ⟨b1, b2, _, ho⟩ := ho
    obtain ⟨i1, i2, i3, i4, i5⟩ := dats_facts ms (fun m hm => h m (by simp [Tr.nms, hm])) ho
    have bl : b.natAbs.log2 < 27 := by
      have : b.natAbs < 2 ^ 27 := by omega
      by_cases h0 : b.natAbs = 0
      · rw [h0]; decide
      · exact (Nat.log2_lt h0).mpr this
    have it : (PyData.int b).shown.length ≤ 28 := by
      simp only [PyData.shown]
      have := int_text_length_le (a := b) (k := 27) (by decide) bl
      rw [PySem.ofString_length]
      exact this
    simp only [Tr.dat, Tr.deep, Tr.size]
    refine ⟨?_, ?_, ?_, ?_, ?_⟩
    · simp [PyData.canLay0, PyData.canLayAll0, ok_lay hn, i1]
    · simp only [PyData.depth, PyData.depthAll]
      omega
    · simp only [PyData.showable, PyData.showableAll, i3, Bool.and_true, Bool.true_and, decide_eq_true_eq]
      omega
    · simp [PyData.hasDict, PyData.hasDictAll, i4]
    · have t1 := tuple_len [(PyData.str n).shown, (PyData.int b).shown, (PyData.tuple (dats ms)).shown]
      have t2 := tuple_len ((dats ms).map PyData.shown)
      have e1 : (PyData.tuple [.str n, .int b, .tuple (dats ms)]).shown = tupleText [(PyData.str n).shown, (PyData.int b).shown, (PyData.tuple (dats ms)).shown] := by simp only [PyData.shown, PyData.shownAll]
      have e2 : (PyData.tuple (dats ms)).shown = tupleText ((dats ms).map PyData.shown) := by simp only [PyData.shown, shownAll_map]
      rw [e1]
      simp only [List.map_cons, List.map_nil, List.sum_cons, List.sum_nil] at t1
      rw [e2] at t1 ⊢
      omega
theorem dats_facts : ∀ (ts : List Tr), (∀ n ∈ nmss ts, nameOk n) → oks ts → PyData.canLayAll0 (dats ts) = true ∧ PyData.depthAll (dats ts) ≤ 2 * deeps ts ∧ PyData.showableAll (dats ts) = true ∧ PyData.hasDictAll (dats ts) = false ∧ (((dats ts).map PyData.shown).map fun t => t.length + 2).sum ≤ 150 * sizes ts
  | [], _, _ => by simp [dats, PyData.canLayAll0, PyData.depthAll, PyData.showableAll, PyData.hasDictAll, deeps, sizes]
  | t :: ts, h, ho => by
    simp only [oks] at ho
    obtain ⟨i1, i2, i3, i4, i5⟩ := dat_facts t (fun m hm => h m (by simp [nmss, hm])) ho.1
    obtain ⟨j1, j2, j3, j4, j5⟩ := dats_facts ts (fun m hm => h m (by simp [nmss, hm])) ho.2
    simp only [dats, PyData.canLayAll0, PyData.depthAll, PyData.showableAll, PyData.hasDictAll, deeps, sizes, i1, j1, i3, j3, i4, j4, List.map_cons, List.sum_cons]
    refine ⟨rfl, ?_, rfl, rfl, ?_⟩
    · omega
    · omega
end
theorem shows_plan {t : Tr} (h : ∀ n ∈ t.nms, nameOk n) (ho : t.ok) (hd : t.deep ≤ 12) (hs : t.size ≤ 600) : shows t.dat := by
  obtain ⟨i1, i2, i3, i4, i5⟩ := dat_facts t h ho
  exact ⟨i3, i4, by omega, by omega⟩
/-! ### what waits: a tree with the path around it -/
def QV (H : Hp) (v : V) (r : Tr × List Str) : Prop := ∃ a pa x, v = .ref a ∧ H a = some (.tup [x, .ref pa]) ∧ TrV H x r.1 ∧ H pa = some (.tup (r.2.map V.str))
inductive Queue (H : Hp) : List V → List (Tr × List Str) → Prop
  | nil : Queue H [] []
  | cons {v : V} {vs : List V} {r : Tr × List Str} {rs : List (Tr × List Str)} : QV H v r → Queue H vs rs → Queue H (v :: vs) (r :: rs)
theorem QV.tk {H H' : Hp} {v : V} {r : Tr × List Str} (k : TK H H') (h : QV H v r) : QV H' v r := by
  obtain ⟨a, pa, x, e, h1, h2, h3⟩ := h
  exact ⟨a, pa, x, e, k _ _ h1, trv_tk k _ _ h2, k _ _ h3⟩
theorem Queue.tk {H H' : Hp} (k : TK H H') : ∀ {vs : List V} {rs : List (Tr × List Str)}, Queue H vs rs → Queue H' vs rs
  | _, _, .nil => .nil
  | _, _, .cons a b => .cons (a.tk k) (b.tk k)
theorem Queue.app {H : Hp} : ∀ {vs us : List V} {rs qs : List (Tr × List Str)}, Queue H vs rs → Queue H us qs → Queue H (vs ++ us) (rs ++ qs)
  | _, _, _, _, .nil, h => h
  | _, _, _, _, .cons a b, h => .cons a (b.app h)
theorem Queue.len {H : Hp} : ∀ {vs : List V} {rs : List (Tr × List Str)}, Queue H vs rs → vs.length = rs.length
  | _, _, .nil => rfl
  | _, _, .cons _ t => by rw [List.length_cons, List.length_cons, t.len]
/-- all rows that what waits gives -/
def due : List (Tr × List Str) → List Rw
  | [] => []
  | (t, p) :: r => t.told p ++ due r
def loadQ : List (Tr × List Str) → Nat
  | [] => 0
  | (t, _) :: r => t.size + loadQ r
def fine : List (Tr × List Str) → Prop
  | [] => True
  | (t, p) :: r => ((∀ n ∈ t.nms, nameOk n) ∧ t.ok ∧ p.length + t.deep ≤ 12 ∧ (∀ n ∈ p, nameOk n)) ∧ fine r
theorem due_members : ∀ (ms : List Tr) (p : List Str) (r : List (Tr × List Str)), due (ms.map (fun m => (m, p)) ++ r) = tolds ms p ++ due r
  | [], p, r => by simp [tolds]
  | m :: ms, p, r => by simp [tolds, due, due_members ms p r]
theorem loadQ_members : ∀ (ms : List Tr) (p : List Str) (r : List (Tr × List Str)), loadQ (ms.map (fun m => (m, p)) ++ r) = sizes ms + loadQ r
  | [], p, r => by simp [sizes]
  | m :: ms, p, r => by simp [sizes, loadQ, loadQ_members ms p r]; omega
theorem fine_members : ∀ {ms : List Tr} {p : List Str} {r : List (Tr × List Str)}, (∀ n ∈ nmss ms, nameOk n) → oks ms → p.length + deeps ms ≤ 12 → (∀ n ∈ p, nameOk n) → fine r → fine (ms.map (fun m => (m, p)) ++ r)
  | [], _, _, _, _, _, _, h => h
  | m :: ms, p, r, h1, h2, h3, h4, h5 => by
    simp only [oks] at h2
    simp only [deeps] at h3
    refine ⟨⟨fun n hn => h1 n (by simp [nmss, hn]), h2.1, by omega, h4⟩, fine_members (fun n hn => h1 n (by simp [nmss, hn])) h2.2 (by omega) h4 h5⟩
def datQ : List (Tr × List Str) → List PyData
  | [] => []
  | (t, p) :: r => .tuple [t.dat, .tuple (p.map PyData.str)] :: datQ r
theorem queue_dp {K : PySem.W.Frag} {H : Hp} : ∀ {vs : List V} {rs : List (Tr × List Str)}, Queue H vs rs → DpAll K H vs (datQ rs)
  | _, _, .nil => .nil
  | _, (t, p) :: _, .cons h b => by
    obtain ⟨a, pa, x, rfl, h1, h2, h3⟩ := h
    exact .cons (.tup (st_of h1) (.cons (trv_dp t x h2) (.cons (.tup (st_of h3) (dpa_strs p)) .nil))) (queue_dp b)
theorem lay_strs : ∀ {p : List Str}, (∀ n ∈ p, nameOk n) → PyData.canLayAll0 (p.map PyData.str) = true ∧ PyData.depthAll (p.map PyData.str) = 0
  | [], _ => by simp [PyData.canLayAll0, PyData.depthAll]
  | n :: p, h => by
    have i := lay_strs (p := p) (fun m hm => h m (List.mem_cons_of_mem _ hm))
    simp [PyData.canLayAll0, PyData.canLay0, PyData.depthAll, PyData.depth, ok_lay (h n (List.mem_cons_self ..)), i.1, i.2]
theorem queue_lay : ∀ {q : List (Tr × List Str)}, fine q → PyData.canLayAll0 (datQ q) = true ∧ PyData.depthAll (datQ q) ≤ 30
  | [], _ => by simp [datQ, PyData.canLayAll0, PyData.depthAll]
  | (t, p) :: r, h => by
    obtain ⟨⟨h1, h2, h3, h4⟩, h5⟩ := h
    obtain ⟨i1, i2, _⟩ := dat_facts t h1 h2
    obtain ⟨j1, j2⟩ := lay_strs h4
    obtain ⟨k1, k2⟩ := queue_lay h5
    simp only [datQ, PyData.canLayAll0, PyData.canLay0, PyData.depthAll, PyData.depth, i1, j1, k1, j2]
    refine ⟨rfl, ?_⟩
    omega
theorem shaped_queue {q : List (Tr × List Str)} (h : fine q) : SeqAt.shaped (.list (datQ q)) = true := by
  obtain ⟨a, b⟩ := queue_lay h
  have c : PyData.canLay0 (.list (datQ q)) = true := by
    simp only [PyData.canLay0]
    exact a
  have d : PyData.depth (.list (datQ q)) ≤ 64 := by
    simp only [PyData.depth]
    omega
  unfold SeqAt.shaped
  rw [c, decide_eq_true d]
  rfl
theorem ev_neQueue {K : PySem.W.Frag} {σ : L2.St} {H : Hp} {ta : TE} {l : Addr} {vs : List V} {q : List (Tr × List Str)} (ha : Ev ta σ H (.ref l)) (hl : H l = some (.lst vs)) (hq : Queue H vs q) (hf : fine q) : Ev (tOp (rNeD K) ta (tLst tNil)) σ H (.bl (!q.isEmpty)) := by
  refine ev_opL (xs := []) ha (el_lst ea_nil (by decide)) fun p H1 hp e1 H2 e2 Q next => ?_
  refine ⟨.list (datQ q), .list [], .lst (sq_of ((e1.trans e2) _ _ hl)) (queue_dp (hq.tk (TK.ex (e1.trans e2)))), .lst (sq_of (e2 _ _ hp)) .nil, shaped_queue hf, by decide +kernel, ?_⟩
  have e : PyData.eqv (.list (datQ q)) (.list []) = q.isEmpty := by
    simp only [PyData.eqv, eqv_nil]
    cases q <;> rfl
  rw [e]
  exact next H2 (Ex.refl H2)
theorem nodup_rev {α : Type} {l : List α} (h : l.reverse.Nodup) : l.Nodup := by
  unfold List.Nodup at h ⊢
  rw [List.pairwise_reverse] at h
  exact h.imp Ne.symm
theorem s_asgP {te : TE} {D : Ends} {σ : L2.St} {H : Hp} {i : Nat} (h : te σ H fun v H1 => D.nx (σ.set i (some v)) H1) : tAsg te (gName i) D σ H := h
theorem size_pos (t : Tr) : 1 ≤ t.size := by
  cases t <;> simp [Tr.size]
theorem len_sizes : ∀ ts : List Tr, ts.length ≤ sizes ts
  | [] => by simp
  | t :: ts => by
    have := len_sizes ts
    have := size_pos t
    simp only [List.length_cons, sizes]
    omega
theorem len_load : ∀ q : List (Tr × List Str), q.length ≤ loadQ q
  | [] => by simp
  | (t, p) :: q => by
    have := len_load q
    have := size_pos t
    simp only [List.length_cons, loadQ]
    omega
mutual
theorem told_path : ∀ (t : Tr) (p : List Str) (r : Rw), r ∈ t.told p → (∀ x ∈ r.2.2, x ∈ p ∨ x ∈ t.nms) ∧ r.2.2.length ≤ p.length + t.deep
  | .hand n, p, r, h => by
    simp only [Tr.told, List.mem_singleton] at h
    subst h
    exact ⟨fun x hx => Or.inl hx, by simp⟩
  | .grp n b ms, p, r, h => by
    simp only [Tr.told, List.mem_cons] at h
    rcases h with rfl | h
    · exact ⟨fun x hx => Or.inl hx, by simp⟩
    · obtain ⟨h1, h2⟩ := tolds_path ms (n :: p) r h
      refine ⟨fun x hx => ?_, by simp only [List.length_cons, Tr.deep] at h2 ⊢; omega⟩
      rcases h1 x hx with h | h
      · rcases List.mem_cons.mp h with rfl | h
        · exact Or.inr (by simp [Tr.nms])
        · exact Or.inl h
      · exact Or.inr (by simp [Tr.nms, h])
theorem tolds_path : ∀ (ts : List Tr) (p : List Str) (r : Rw), r ∈ tolds ts p → (∀ x ∈ r.2.2, x ∈ p ∨ x ∈ nmss ts) ∧ r.2.2.length ≤ p.length + deeps ts
  | [], p, r, h => by simp [tolds] at h
  | t :: ts, p, r, h => by
    simp only [tolds, List.mem_append] at h
    rcases h with h | h
    · obtain ⟨h1, h2⟩ := told_path t p r h
      refine ⟨fun x hx => ?_, by simp only [deeps]; omega⟩
      rcases h1 x hx with h | h
      · exact Or.inl h
      · exact Or.inr (by simp [nmss, h])
    · obtain ⟨h1, h2⟩ := tolds_path ts p r h
      refine ⟨fun x hx => ?_, by simp only [deeps]; omega⟩
      rcases h1 x hx with h | h
      · exact Or.inl h
      · exact Or.inr (by simp [nmss, h])
end
theorem told_mem {t : Tr} {p : List Str} {r : Rw} (h : r ∈ t.told p) : r.1 ∈ t.nms := by
  rw [← told_nms t p]
  exact List.mem_map.mpr ⟨r, h, rfl⟩
/-- with all names unlike, a row is found by its name -/
theorem find_row {rs : List Rw} (h : (rs.map (·.1)).Nodup) {i : Nat} {r : Rw} (hi : rs[i]? = some r) : rs.find? (fun q => decide (q.1 = r.1)) = some r := by
  refine find_at (fun x hx => ?_) hi (decide_eq_true rfl)
  refine decide_eq_false fun e => ?_
  obtain ⟨j, hj⟩ := List.getElem?_of_mem hx
  have hji : j < i := by
    have := (List.getElem?_eq_some_iff.mp hj).1
    rw [List.length_take] at this
    omega
  have hj2 : rs[j]? = some x := by
    rw [List.getElem?_take_of_lt hji] at hj
    exact hj
  have h1 : (rs.map (·.1))[j]? = some r.1 := by rw [List.getElem?_map, hj2, ← e]; rfl
  have h2 : (rs.map (·.1))[i]? = some r.1 := by rw [List.getElem?_map, hi]; rfl
  have h3 := (List.getElem?_eq_some_iff.mp h1)
  have h4 := (List.getElem?_eq_some_iff.mp h2)
  obtain ⟨l1, g1⟩ := h3
  obtain ⟨l2, g2⟩ := h4
  unfold List.Nodup at h
  exact (List.pairwise_iff_getElem.mp h) j i l1 l2 hji (g1.trans g2.symm)
def rTup (K : PySem.W.Frag) : List V → Hp → VK → Prop := fun xs H Q => ∃ p ys, xs = [.ref p] ∧ ((SqL K H p ys ∧ ∀ l, H l = none → Q (.ref l) (upd H l (.tup ys))) ∨ (SqT K H p ys ∧ Q (.ref p) H))
theorem tupleK {X : Cx} {K : PySem.W.Frag} (h : X.K = K) : CallR X (.type "tuple") (rTup K) := by subst h; exact call_tuple_of
end NL

/-! data with dicts in them (what a dict holds is left aside), and what a plan is among them -/
namespace NL
open PySem L2 Evl
mutual
inductive Dx (K : PySem.W.Frag) (H : Hp) : V → PyData → Prop
  | non : Dx K H .non .none
  | bl (b : Bool) : Dx K H (.bl b) (.bool b)
  | int (i : Int) : Dx K H (.int i) (.int i)
  | str (x : Str) : Dx K H (.str x) (.str x)
  | lst {a : Addr} {xs : List V} {ds : List PyData} : SqL K H a xs → DxAll K H xs ds → Dx K H (.ref a) (.list ds)
  | tup {a : Addr} {xs : List V} {ds : List PyData} : SqT K H a xs → DxAll K H xs ds → Dx K H (.ref a) (.tuple ds)
  | dct {a : Addr} {kvs : List (Key × V)} {ks : List (PyData × PyData)} : H a = some (.dK kvs) → Dx K H (.ref a) (.dict ks)
inductive DxAll (K : PySem.W.Frag) (H : Hp) : List V → List PyData → Prop
  | nil : DxAll K H [] []
  | cons {v : V} {vs : List V} {d : PyData} {ds : List PyData} : Dx K H v d → DxAll K H vs ds → DxAll K H (v :: vs) (d :: ds)
end
mutual
theorem dx_of {K : PySem.W.Frag} {H H' : Hp} (el : ∀ a xs, SqL K H a xs → SqL K H' a xs) (et : ∀ a xs, SqT K H a xs → SqT K H' a xs) (ed : ∀ a kvs, H a = some (.dK kvs) → ∃ kvs', H' a = some (.dK kvs')) : ∀ (d : PyData) (v : V), Dx K H v d → Dx K H' v d
  | .none, _, h => by cases h; exact .non
  | .bool b, _, h => by cases h; exact .bl b
  | .int i, _, h => by cases h; exact .int i
  | .str x, _, h => by cases h; exact .str x
  | .list ds, _, h => by
    cases h with
    | lst hs ha => exact .lst (el _ _ hs) (dxa_of el et ed ds _ ha)
  | .tuple ds, _, h => by
    cases h with
    | tup hs ha => exact .tup (et _ _ hs) (dxa_of el et ed ds _ ha)
  | .dict kvs, _, h => by
    cases h with
    | dct hd =>
      obtain ⟨kvs', hd'⟩ := ed _ _ hd
      exact .dct hd'
theorem dxa_of {K : PySem.W.Frag} {H H' : Hp} (el : ∀ a xs, SqL K H a xs → SqL K H' a xs) (et : ∀ a xs, SqT K H a xs → SqT K H' a xs) (ed : ∀ a kvs, H a = some (.dK kvs) → ∃ kvs', H' a = some (.dK kvs')) : ∀ (ds : List PyData) (vs : List V), DxAll K H vs ds → DxAll K H' vs ds
  | [], _, h => by cases h; exact .nil
  | d :: ds, _, h => by
    cases h with
    | cons h1 h2 => exact .cons (dx_of el et ed d _ h1) (dxa_of el et ed ds _ h2)
end
theorem dx_mono {K : PySem.W.Frag} {H H' : Hp} {v : V} {d : PyData} (e : Ex H H') (h : Dx K H v d) : Dx K H' v d := dx_of (fun _ _ => ex_l e) (fun _ _ => ex_t e) (fun a kvs z => ⟨kvs, e _ _ z⟩) d v h
theorem dxa_mono {K : PySem.W.Frag} {H H' : Hp} {vs : List V} {ds : List PyData} (e : Ex H H') (h : DxAll K H vs ds) : DxAll K H' vs ds := dxa_of (fun _ _ => ex_l e) (fun _ _ => ex_t e) (fun a kvs z => ⟨kvs, e _ _ z⟩) ds vs h
mutual
theorem dx_dp {K : PySem.W.Frag} {H : Hp} : ∀ (d : PyData) (v : V), Dp K H v d → Dx K H v d
  | .none, _, h => by cases h; exact .non
  | .bool b, _, h => by cases h; exact .bl b
  | .int i, _, h => by cases h; exact .int i
  | .str x, _, h => by cases h; exact .str x
  | .list ds, _, h => by
    cases h with
    | lst hs ha => exact .lst hs (dxa_dp ds _ ha)
  | .tuple ds, _, h => by
    cases h with
    | tup hs ha => exact .tup hs (dxa_dp ds _ ha)
  | .dict kvs, _, h => by cases h
theorem dxa_dp {K : PySem.W.Frag} {H : Hp} : ∀ (ds : List PyData) (vs : List V), DpAll K H vs ds → DxAll K H vs ds
  | [], _, h => by cases h; exact .nil
  | d :: ds, _, h => by
    cases h with
    | cons h1 h2 => exact .cons (dx_dp d _ h1) (dxa_dp ds _ h2)
end
theorem dxa_len {K : PySem.W.Frag} {H : Hp} : ∀ {vs : List V} {ds : List PyData}, DxAll K H vs ds → vs.length = ds.length
  | _, _, .nil => rfl
  | _, _, .cons _ t => by rw [List.length_cons, List.length_cons, dxa_len t]
theorem dxa_get {K : PySem.W.Frag} {H : Hp} : ∀ {vs : List V} {ds : List PyData} {i : Nat} {v : V}, DxAll K H vs ds → vs[i]? = some v → ∃ d, ds[i]? = some d ∧ Dx K H v d
  | _, _, _, _, .nil, e => by simp at e
  | _, _, 0, _, .cons r _, e => by simp at e; subst e; exact ⟨_, rfl, r⟩
  | _, _, i + 1, v, .cons _ t, e => by
    obtain ⟨d, h1, h2⟩ := dxa_get (i := i) (v := v) t (by simpa using e)
    exact ⟨d, by simpa using h1, h2⟩
theorem dx_ty {K : PySem.W.Frag} {H : Hp} {v : V} {d : PyData} (h : Dx K H v d) : TyX K H v (.type (tyN d)) := by
  cases h with
  | non => exact .base .non
  | bl b => exact .base (.bl b)
  | int i => exact .base (.int i)
  | str x => exact .base (.str x)
  | lst hs _ =>
    rcases hs with (h | ⟨o, h⟩) | ⟨o, its, n, h, c, _⟩
    · exact .base (.lst h)
    · exact .base (.frz h)
    · exact .kList h c
  | tup hs _ =>
    rcases hs with (h | ⟨o, h⟩) | ⟨o, its, n, h, c, _⟩
    · exact .base (.tup h)
    · exact .fTuple h
    · exact .kTuple h c
  | dct h => exact .base (.dK h)
theorem ev_isX {K : PySem.W.Frag} {σ : L2.St} {H : Hp} {ta : TE} {x : V} {d : PyData} {T : String} {b : Bool} (ha : Ev ta σ H x) (hd : Dx K H x d) (hk : kitB (tyN d) T = some b) : Ev (tCB (rIsi K) (tCons ta (tCons (tC (.ty T)) tNil))) σ H (.bl b) := fun H1 e Q q =>
  ha H1 e _ fun H2 e2 => ⟨x, .ty T, _, _, b, rfl, .ty T, dx_ty (dx_mono (e.trans e2) hd), kit_ty hk, q H2 e2⟩
/-! ### names, plans -/
def nameB (s : Str) : Bool := decide (1 ≤ s.length) && decide (s.length ≤ 8) && s.cps.toList.all fun c => decide (c ∈ ("abcdefghijklmnopqrstuvwxyz" : Str).cps.toList)
def isNm : PyData → Bool
  | .str s => nameB s
  | _ => false
def fitN (d : PyData) (seen : List Str) : Option (List Str) := match d with
  | .str s => if nameB s = true ∧ s ∉ seen then some (seen ++ [s]) else none
  | _ => none
mutual
def fitM : PyData → List Str → Option (List Str)
  | .str s, seen => if nameB s = true ∧ s ∉ seen then some (seen ++ [s]) else none
  | .tuple [.str n, .int b, .tuple ms], seen => if 1 ≤ b ∧ ms ≠ [] ∧ nameB n = true ∧ n ∉ seen then fitMs ms (seen ++ [n]) else none
  | _, _ => none
def fitMs : List PyData → List Str → Option (List Str)
  | [], seen => some seen
  | d :: ds, seen => match fitM d seen with
    | none => none
    | some s => fitMs ds s
end
/-- as a group by itself -/
def fitG (d : PyData) (seen : List Str) : Option (List Str) := match d with
  | .str _ => none
  | d => fitM d seen
def planB (d : PyData) : Bool := (fitG d []).isSome
/-- what is a group by its form -/
def formB : PyData → Bool
  | .tuple [_, .int b, .tuple ms] => decide (1 ≤ b) && !ms.isEmpty
  | _ => false
mutual
def nodes : PyData → Nat
  | .tuple ds => nodess ds + 1
  | .list ds => nodess ds + 1
  | _ => 1
def nodess : List PyData → Nat
  | [] => 0
  | d :: ds => nodes d + nodess ds
end
/-- all but the dict at sd stays -/
def KD (sd : Addr) (H H' : Hp) : Prop := ∀ a o, a ≠ sd → H a = some o → H' a = some o
theorem KD.trans {sd : Addr} {H H1 H2 : Hp} (a : KD sd H H1) (b : KD sd H1 H2) : KD sd H H2 := fun x o n e => b x o n (a x o n e)
theorem KD.ex {sd : Addr} {H H1 : Hp} (a : Ex H H1) : KD sd H H1 := fun x o _ e => a x o e
abbrev ky (n : Str) : Key × V := (Sum.inr n, .bl true)
theorem kd_rd {sd : Addr} {H H' : Hp} {kvs : List (Key × V)} (h : H sd = some (.dK kvs)) (k : KD sd H H') {a : Addr} {u : HO} (hu : ∀ z, u ≠ .dK z) (r : Rd H a u) : Rd H' a u := by
  rcases r with r | ⟨o, r⟩
  · exact Or.inl (k _ _ (fun z => by subst z; rw [h] at r; cases r; exact hu _ rfl) r)
  · exact Or.inr ⟨o, k _ _ (fun z => by subst z; rw [h] at r; cases r) r⟩
theorem dx_kd {K : PySem.W.Frag} {sd : Addr} {H H' : Hp} {kvs kvs' : List (Key × V)} (h : H sd = some (.dK kvs)) (h' : H' sd = some (.dK kvs')) (k : KD sd H H') {v : V} {d : PyData} (x : Dx K H v d) : Dx K H' v d := by
  refine dx_of (fun a xs s => ?_) (fun a xs s => ?_) (fun a ks s => ?_) d v x
  · rcases s with s | s
    · exact Or.inl (kd_rd h k (fun z e => by cases e) s)
    · exact Or.inr s
  · rcases s with s | s
    · exact Or.inl (kd_rd h k (fun z e => by cases e) s)
    · exact Or.inr s
  · by_cases e : a = sd
    · subst e
      exact ⟨_, h'⟩
    · exact ⟨ks, k _ _ e s⟩
theorem st_kd {K : PySem.W.Frag} {sd : Addr} {H H' : Hp} {kvs : List (Key × V)} (h : H sd = some (.dK kvs)) (k : KD sd H H') {a : Addr} {xs : List V} (s : SqT K H a xs) : SqT K H' a xs := by
  rcases s with s | s
  · exact Or.inl (kd_rd h k (fun z e => by cases e) s)
  · exact Or.inr s
theorem val_ky {n : Str} : ∀ {ns : List Str}, (valV (ns.map ky) (Sum.inr n)).isSome = decide (n ∈ ns)
  | [] => by simp [valV]
  | m :: ns => by
    by_cases e : m = n
    · subst e
      rw [List.map_cons, valV_pos rfl]
      simp
    · rw [List.map_cons, valV_neg (fun z => e (Sum.inr.inj z)), val_ky]
      have : decide (n ∈ m :: ns) = decide (n ∈ ns) := decide_eq_decide.mpr ⟨fun h => by rcases List.mem_cons.mp h with h | h; exact absurd h.symm e; exact h, fun h => List.mem_cons_of_mem _ h⟩
      rw [this]
theorem put_ky {n : Str} {ns : List Str} (h : n ∉ ns) : putK (ns.map ky) (Sum.inr n) (.bl true) = (ns ++ [n]).map ky := by
  unfold putK
  rw [valV_any, val_ky, decide_eq_false h]
  simp
/-- a comprehension over a text's signs -/
theorem el_lcS {σ : L2.St} {H : Hp} {z : Str} {tl te : TE} {j : Nat} {vs : List Nat} (g : Nat → V) (src : Ev tl σ H (.str z)) (few : z.cps.size ≤ 40000) (clean : ∀ x, wipe ((wipe σ vs).set j (some x)) vs = wipe σ vs)
    (give : ∀ (i : Nat) (c : Nat) H1, Ex H H1 → z.cps[i]? = some c → Ev te ((wipe σ vs).set j (some (.str ⟨#[c]⟩))) H1 (g i)) : EvL (tLc (iStr tl) (gName j) tYes te vs) σ H ((List.range z.cps.size).map g) := by
  intro H0 e0 Q next
  refine src H0 e0 _ fun H1 e1 => ?_
  refine ⟨z, rfl, fun made fresh => ?_⟩
  refine lc_it (walk_str (z := z)) (Cw H1 (fun _ => true) g made) ⟨fresh, Ex.new fresh, upd_same⟩ (fun _ _ _ _ => trivial) ?turn ?done
  case turn =>
    intro i x H2 H3 lt inv y
    obtain ⟨rfl, c, hc, rfl⟩ := y
    exact ⟨clean _, cw_turn inv (by omega) et_yes (fun _ => give i c H1 (e0.trans e1) hc)⟩
  case done =>
    intro H2 inv
    have h2 := inv.2.2
    rw [given_all] at h2
    exact next made H2 (fresh_back e1 inv.1) (e1.trans inv.2.1) h2
/-- a <= b <= c -/
theorem ev_chain2 {σ : L2.St} {H : Hp} {ta tb tc : TE} {f g : Int → Int → Bool} {i j k : Int} (ha : Ev ta σ H (.int i)) (hb : Ev tb σ H (.int j)) (hc : Ev tc σ H (.int k)) : Ev (tChain (rI0 fun i j => .bl (f i j)) (rI0 fun i j => .bl (g i j)) ta tb tc) σ H (.bl (f i j && g j k)) := by
  intro H1 e Q q
  refine ha H1 e _ fun H2 e2 => hb H2 (e.trans e2) _ fun H3 e3 => ⟨i, j, rfl, rfl, f i j, rfl, ?_⟩
  cases hf : f i j with
  | true =>
    rw [if_pos rfl]
    refine hc H3 ((e.trans e2).trans e3) _ fun H4 e4 => ⟨j, k, rfl, rfl, ?_⟩
    have h := q H4 ((e2.trans e3).trans e4)
    rw [hf, Bool.true_and] at h
    exact h
  | false =>
    rw [if_neg (by decide)]
    have h := q H3 (e2.trans e3)
    rw [hf, Bool.false_and] at h
    exact h
mutual
def shorts : PyData → Prop
  | .str s => s.length ≤ 1000000
  | .tuple ds => shortss ds
  | .list ds => shortss ds
  | _ => True
def shortss : List PyData → Prop
  | [] => True
  | d :: ds => shorts d ∧ shortss ds
end
theorem shortss_mem : ∀ {ds : List PyData} {i : Nat} {d : PyData}, shortss ds → ds[i]? = some d → shorts d
  | [], _, _, _, h => by simp at h
  | x :: ds, 0, d, hs, h => by simp at h; subst h; simp only [shortss] at hs; exact hs.1
  | x :: ds, i + 1, d, hs, h => by simp only [shortss] at hs; exact shortss_mem (i := i) hs.2 (by simpa using h)
theorem nodess_take : ∀ {ds : List PyData} {i : Nat} {d : PyData}, ds[i]? = some d → nodess (ds.take (i + 1)) = nodess (ds.take i) + nodes d
  | [], _, _, h => by simp at h
  | x :: ds, 0, d, h => by simp at h; subst h; simp [nodess]
  | x :: ds, i + 1, d, h => by
    have := nodess_take (ds := ds) (i := i) (d := d) (by simpa using h)
    simp only [List.take_succ_cons, nodess]
    omega
theorem nodess_le : ∀ (ds : List PyData) (i : Nat), nodess (ds.take i) ≤ nodess ds
  | [], i => by simp [nodess]
  | x :: ds, 0 => by simp [nodess]
  | x :: ds, i + 1 => by
    have := nodess_le ds i
    simp only [List.take_succ_cons, nodess]
    omega
theorem depth_mem : ∀ {ds : List PyData} {i : Nat} {d : PyData}, ds[i]? = some d → d.depth ≤ PyData.depthAll ds
  | [], _, _, h => by simp at h
  | x :: ds, 0, d, h => by simp at h; subst h; simp only [PyData.depthAll]; exact Nat.le_max_left _ _
  | x :: ds, i + 1, d, h => by
    have := depth_mem (ds := ds) (i := i) (d := d) (by simpa using h)
    simp only [PyData.depthAll]
    exact Nat.le_trans this (Nat.le_max_right _ _)
theorem fitMs_take : ∀ {ds : List PyData} {i : Nat} {d : PyData} {s r : List Str}, ds[i]? = some d → fitMs (ds.take i) s = some r → fitMs (ds.take (i + 1)) s = fitM d r
  | [], _, _, _, _, h, _ => by simp at h
  | x :: ds, 0, d, s, r, h, hf => by
    simp at h
    subst h
    simp only [List.take_zero, fitMs, Option.some.injEq] at hf
    subst hf
    simp only [List.take_succ_cons, List.take_zero, fitMs]
    cases fitM x s <;> rfl
  | x :: ds, i + 1, d, s, r, h, hf => by
    simp only [List.take_succ_cons, fitMs] at hf ⊢
    cases hx : fitM x s with
    | none => rw [hx] at hf; cases hf
    | some q =>
      rw [hx] at hf
      exact fitMs_take (ds := ds) (i := i) (by simpa using h) hf
theorem fitMs_stop : ∀ {ds : List PyData} {i : Nat} {s : List Str}, fitMs (ds.take i) s = none → fitMs ds s = none
  | [], i, s, h => by simpa using h
  | x :: ds, 0, s, h => by simp [fitMs] at h
  | x :: ds, i + 1, s, h => by
    simp only [List.take_succ_cons, fitMs] at h ⊢
    cases hx : fitM x s with
    | none => rfl
    | some q =>
      rw [hx] at h
      exact fitMs_stop (ds := ds) (i := i) h
theorem fit_form {d : PyData} {s : List Str} (h : formB d = false) : fitG d s = none := by
  unfold fitG
  split
  · rfl
  · unfold fitM
    split
    · rename_i hn; exact absurd rfl (hn _)
    · rename_i n b ms seen
      simp only [formB, Bool.and_eq_false_iff] at h
      rw [if_neg]
      intro ⟨h1, h2, _⟩
      rcases h with h | h
      · simp at h; omega
      · simp at h; exact h2 h
    · rfl
/-- how a look with names seen ends -/
def Post (sd : Addr) (ns : List Str) (N : Nat) (r : Option (List Str)) (H : Hp) (Q : VK) : Prop := ∀ (b : Bool) (ms : List Str) (H' : Hp), KD sd H H' → H' sd = some (.dK (ms.map ky)) → (b = true → r = some ms ∧ ms.length ≤ ns.length + N) → (b = false → r = none) → Q (.bl b) H'
theorem q_notB {te : TE} {tu tz : TS} {D : Ends} {σ : L2.St} {H : Hp} (h : te σ H fun x H1 => ∃ c, x = .bl c ∧ if (!c) = true then tu { D with nx := tz D } σ H1 else tz D σ H1) : tSeq (tIfS (tNot (tB te)) tu tNext) tz D σ H := h
theorem s_notB {te : TE} {tu : TS} {D : Ends} {σ : L2.St} {H : Hp} (h : te σ H fun x H1 => ∃ c, x = .bl c ∧ if (!c) = true then tu D σ H1 else D.nx σ H1) : tIfS (tNot (tB te)) tu tNext D σ H := h
theorem dxa3 {K : PySem.W.Frag} {H : Hp} {xs : List V} {d f g : PyData} (h : DxAll K H xs [d, f, g]) : ∃ x y z, xs = [x, y, z] ∧ Dx K H x d ∧ Dx K H y f ∧ Dx K H z g := by
  cases h with
  | cons h1 t =>
    cases t with
    | cons h2 t =>
      cases t with
      | cons h3 t =>
        cases t
        exact ⟨_, _, _, rfl, h1, h2, h3⟩
end NL

/-! all names of a plan, as a datum -/
namespace NL
open PySem L2 Evl
mutual
def allM : PyData → Option (List Str)
  | .str s => if nameB s = true then some [s] else none
  | .tuple [.str n, .int b, .tuple ms] => if 1 ≤ b ∧ ms ≠ [] ∧ nameB n = true then (match allMs ms with | none => none | some r => some (n :: r)) else none
  | _ => none
def allMs : List PyData → Option (List Str)
  | [] => some []
  | d :: ds => match allM d with
    | none => none
    | some a => match allMs ds with
      | none => none
      | some b => some (a ++ b)
end
def allG (d : PyData) : Option (List Str) := match d with
  | .str _ => none
  | d => allM d
def within (o : Option (List Str)) (seen : List Str) : Option (List Str) := match o with
  | none => none
  | some ns => if ns.Nodup ∧ ∀ n ∈ ns, n ∉ seen then some (seen ++ ns) else none
mutual
theorem fit_all (d : PyData) (seen : List Str) : fitM d seen = within (allM d) seen := by
  unfold fitM allM
  split
  · rename_i s
    simp only
    by_cases h1 : nameB s = true
    · by_cases h2 : s ∈ seen
      · rw [if_neg (fun h => h.2 h2), if_pos h1]
        simp only [within]
        rw [if_neg (fun h => h.2 s (List.mem_singleton.mpr rfl) h2)]
      · rw [if_pos ⟨h1, h2⟩, if_pos h1]
        simp only [within]
        rw [if_pos ⟨by simp, fun n hn => by rw [List.mem_singleton.mp hn]; exact h2⟩]
    · rw [if_neg (fun h => h1 h.1), if_neg h1]
      rfl
  · rename_i n b ms
    simp only
    by_cases h1 : 1 ≤ b ∧ ms ≠ [] ∧ nameB n = true
    · rw [if_pos h1]
      by_cases h2 : n ∈ seen
      · rw [if_neg (fun h => h.2.2.2 h2)]
        cases hm : allMs ms with
        | none => rfl
        | some r =>
          simp only [within]
          rw [if_neg (fun h => h.2 n (List.mem_cons_self ..) h2)]
      · rw [if_pos ⟨h1.1, h1.2.1, h1.2.2, h2⟩, fits_all ms (seen ++ [n])]
        cases hm : allMs ms with
        | none => rfl
        | some r =>
          simp only [within]
          by_cases h3 : r.Nodup ∧ ∀ x ∈ r, x ∉ seen ++ [n]
          · rw [if_pos h3, if_pos]
            · simp
            · refine ⟨List.nodup_cons.mpr ⟨fun z => h3.2 n z (by simp), h3.1⟩, fun x hx => ?_⟩
              rcases List.mem_cons.mp hx with rfl | hx
              · exact h2
              · exact fun z => h3.2 x hx (List.mem_append_left _ z)
          · rw [if_neg h3, if_neg]
            intro h4
            have h5 := List.nodup_cons.mp h4.1
            refine h3 ⟨h5.2, fun x hx z => ?_⟩
            rcases List.mem_append.mp z with z | z
            · exact h4.2 x (List.mem_cons_of_mem _ hx) z
            · rw [List.mem_singleton.mp z] at hx
              exact h5.1 hx
    · rw [if_neg (fun h => h1 ⟨h.1, h.2.1, h.2.2.1⟩), if_neg h1]
      rfl
  · rename_i h1 h2
    split
    · exact absurd rfl (h1 _)
    · exact absurd rfl (h2 _ _ _)
    · rfl
termination_by sizeOf d
theorem fits_all (ds : List PyData) (seen : List Str) : fitMs ds seen = within (allMs ds) seen := by
  cases ds with
  | nil =>
    simp only [fitMs, allMs, within]
    rw [if_pos ⟨by simp, fun n hn => by cases hn⟩]
    simp
  | cons d ds =>
    simp only [fitMs, allMs]
    rw [fit_all d seen]
    cases ha : allM d with
    | none => rfl
    | some a =>
      simp only [within]
      by_cases h1 : a.Nodup ∧ ∀ n ∈ a, n ∉ seen
      · rw [if_pos h1]
        simp only
        rw [fits_all ds (seen ++ a)]
        cases hb : allMs ds with
        | none => rfl
        | some b =>
          simp only [within]
          by_cases h2 : b.Nodup ∧ ∀ n ∈ b, n ∉ seen ++ a
          · rw [if_pos h2, if_pos]
            · simp
            · refine ⟨List.nodup_append.mpr ⟨h1.1, h2.1, fun x hx y hy e => ?_⟩, fun x hx => ?_⟩
              · subst e
                exact h2.2 x hy (List.mem_append_right _ hx)
              · rcases List.mem_append.mp hx with hx | hx
                · exact h1.2 x hx
                · exact fun z => h2.2 x hx (List.mem_append_left _ z)
          · rw [if_neg h2, if_neg]
            intro h3
            have h4 := List.nodup_append.mp h3.1
            refine h2 ⟨h4.2.1, fun x hx z => ?_⟩
            rcases List.mem_append.mp z with z | z
            · exact h3.2 x (List.mem_append_right _ hx) z
            · exact h4.2.2 x z x hx rfl
      · rw [if_neg h1]
        simp only
        cases hb : allMs ds with
        | none => rfl
        | some b =>
          simp only
          rw [if_neg]
          intro h3
          exact h1 ⟨(List.nodup_append.mp h3.1).1, fun x hx => h3.2 x (List.mem_append_left _ hx)⟩
termination_by sizeOf ds
end
def uniqueB (o : Option (List Str)) : Bool := match o with
  | none => false
  | some ns => decide ns.Nodup
theorem plan_unique (d : PyData) : planB d = uniqueB (allG d) := by
  have main : ∀ d, (fitM d []).isSome = uniqueB (allM d) := fun d => by
    rw [fit_all]
    cases allM d with
    | none => rfl
    | some ns =>
      simp only [within, uniqueB]
      by_cases h : ns.Nodup
      · rw [if_pos ⟨h, fun n _ => by simp⟩, decide_eq_true h]
        rfl
      · rw [if_neg (fun z => h z.1), decide_eq_false h]
        rfl
  cases d with
  | str s => rfl
  | _ => exact main _
mutual
theorem all_len (d : PyData) (ns : List Str) (h : allM d = some ns) : ns.length ≤ nodes d := by
  unfold allM at h
  split at h
  · split at h
    · cases h
      simp [nodes]
    · cases h
  · rename_i n b ms
    split at h
    · cases hm : allMs ms with
      | none => rw [hm] at h; cases h
      | some r =>
        rw [hm] at h
        cases h
        have := alls_len ms r hm
        simp only [nodes, nodess, List.length_cons]
        omega
    · cases h
  · cases h
termination_by sizeOf d
theorem alls_len (ds : List PyData) (ns : List Str) (h : allMs ds = some ns) : ns.length ≤ nodess ds := by
  cases ds with
  | nil => simp only [allMs] at h; cases h; simp
  | cons d ds =>
    simp only [allMs] at h
    cases ha : allM d with
    | none => rw [ha] at h; cases h
    | some a =>
      rw [ha] at h
      simp only at h
      cases hb : allMs ds with
      | none => rw [hb] at h; cases h
      | some b =>
        rw [hb] at h
        cases h
        have := all_len d a ha
        have := alls_len ds b hb
        simp only [nodess, List.length_append]
        omega
termination_by sizeOf ds
end
theorem alls_take : ∀ {ds : List PyData} {i : Nat} {d : PyData} {r : List Str}, ds[i]? = some d → allMs (ds.take i) = some r → allMs (ds.take (i + 1)) = match allM d with | none => none | some a => some (r ++ a)
  | [], _, _, _, h, _ => by simp at h
  | x :: ds, 0, d, r, h, hr => by
    simp at h
    subst h
    simp only [List.take_zero, allMs, Option.some.injEq] at hr
    subst hr
    simp only [List.take_succ_cons, List.take_zero, allMs]
    cases allM x <;> simp
  | x :: ds, i + 1, d, r, h, hr => by
    simp only [List.take_succ_cons, allMs] at hr ⊢
    cases hx : allM x with
    | none => rw [hx] at hr; cases hr
    | some a =>
      rw [hx] at hr
      simp only at hr ⊢
      cases hy : allMs (ds.take i) with
      | none => rw [hy] at hr; cases hr
      | some b =>
        rw [hy] at hr
        cases hr
        rw [alls_take (ds := ds) (i := i) (by simpa using h) hy]
        cases allM d <;> simp
theorem alls_stop : ∀ {ds : List PyData} {i : Nat}, allMs (ds.take i) = none → allMs ds = none
  | [], i, h => by simpa using h
  | x :: ds, 0, h => by simp [allMs] at h
  | x :: ds, i + 1, h => by
    simp only [List.take_succ_cons, allMs] at h ⊢
    cases hx : allM x with
    | none => rfl
    | some a =>
      rw [hx] at h
      simp only at h ⊢
      cases hy : allMs (ds.take i) with
      | none => rw [alls_stop hy]
      | some b => rw [hy] at h; cases h
theorem all_not {d : PyData} (h : isNm d = false) : allM d = allG d := by
  cases d with
  | str s =>
    simp only [isNm] at h
    unfold allM
    simp [allG, h]
  | _ => rfl
end NL

/-! a list that is extended by a tuple, a list as a test; the names of a plan from a pile of what waits -/
namespace NL
open PySem L2 Evl
theorem list_extend_tup (l : Addr) (items : Array Value) (n : Nat) (b : Addr) (o : Obj) (items2 : Array Value) (n2 : Nat) (hc : o.cls = .type "tuple") (hd : o.data = .seq items2 n2)
    (h0 : ¬(!items.isEmpty && Builtin.List.listTooLong (items.size + items2.size)) = true) (h1 : items.size ≤ sizeLine) (h2 : items.size + items2.size ≤ sizeLine + 1) :
    Meets (Builtin.«list.extend» ⟨[.ref l, .ref b], []⟩) (fun _ R s => s.heap.get? l = some ⟨.type "list", none, .seq items n, #[]⟩ ∧ s.heap.get? b = some o ∧ R (.ok (.ret Value.none)) { s with heap := s.heap.update l (Obj.mapSeq fun x => x ++ items2), toks := s.toks }) := by
  obtain ⟨c, dc, da, sl⟩ := o
  cases hc
  cases hd
  refine .of_wp fun prog w A R s h => ?_
  obtain ⟨hp, g, d, tk, os⟩ := s
  obtain ⟨hl, hb, h⟩ := h
  have f1 := AutoSeq1.idx_int
  have f2 := AutoSeq1.sub_tuple_tuple
  have f3 := AutoSeq1.sub_list_list
  have f4 := AutoSeq1.sub_tuple_list
  have f5 := AutoSeq1.sub_list_tuple
  have hz' : (items ++ items2).size ≤ sizeLine + 1 := by rw [Array.size_append]; exact h2
  wp_walk using (wpAny_updateSeq hl rfl (hz := h1) (_hz' := hz')), AutoSeq1.wpAny_loadPart' hl, AutoSeq1.wpAny_loadPart' hb
  exact ⟨_, rfl, h⟩
def rExtT (K : PySem.W.Frag) : V → List V → Hp → VK → Prop := fun x vs H Q => ∃ l b xs zs, x = .ref l ∧ vs = [.ref b] ∧ H l = some (.lst xs) ∧ SqT K H b zs ∧ xs.length + zs.length ≤ sizeLine ∧ Q .non (upd H l (.lst (xs ++ zs)))
theorem mt_extendT {X : Cx} {K : PySem.W.Frag} (hK : X.K = K) : MtM X "list.extend" (rExtT K) := by
  subst hK
  intro pins s σ H x vs v us Q I rx rv h
  obtain ⟨l, b, xs, zs, rfl, rfl, hH, hB, hz, q⟩ := h
  cases rx
  obtain ⟨u, rfl, ru⟩ := rv.one
  cases ru
  obtain ⟨z, its, n, r, hl, e⟩ := I.lstM hH
  obtain ⟨its2, r2, ⟨o, ho, hc, n2, hd⟩, hl2⟩ := I.tuple hB
  have q1 := r.length
  have q2 := r2.length
  have hsz : its.toArray.size + its2.toArray.size ≤ sizeLine := by rw [List.size_toArray, List.size_toArray]; omega
  have hlong : ¬ (!its.toArray.isEmpty && Builtin.List.listTooLong (its.toArray.size + its2.toArray.size)) = true := by
    rw [notLongL hsz, Bool.and_false]
    exact Bool.false_ne_true
  refine call_meets F.slot_list_extend ⟨_, e, rfl⟩ F.entry_list_extend (F.args_list_extend_2 _ _)
    (list_extend_tup l its.toArray n b o its2.toArray n2 hc hd hlong (by rw [List.size_toArray]; omega) (by omega)) ⟨e, ho, ?_⟩
  refine ⟨.non, _, I.lset (its' := its ++ its2) hH e (by simp) (r.append r2) ?_, rfl, q⟩
  rw [List.length_append]
  omega
def tTru (K : PySem.W.Frag) (te : TE) : TT := fun σ H Q => te σ H fun x H' => ∃ k, TruV K x H' k ∧ Q k H'
theorem truK {X : Cx} {K : PySem.W.Frag} {a : Expr} {ta : TE} (hK : X.K = K) (ha : PE X a ta) (he : ∀ whole, isTrue a X.env whole = (do let v ← whole; standAt a.pos; holding [v] (truthy v))) : PT X a (tTru K ta) := by
  subst hK
  exact pt_truth ha he
theorem et_truL {K : PySem.W.Frag} {te : TE} {σ : L2.St} {H : Hp} {l : Addr} {xs : List V} (h : Ev te σ H (.ref l)) (hl : H l = some (.lst xs)) : EvT (tTru K te) σ H (!xs.isEmpty) := fun H1 e Q q =>
  h H1 e _ fun H2 e2 => ⟨!xs.isEmpty, Or.inl ⟨xs, sq_of ((e.trans e2) _ _ hl), rfl⟩, q H2 e2⟩
/-! ### what waits, the last one first -/
/-- a member's own name, and what is in it -/
def hdM : PyData → Option (Str × List PyData)
  | .str s => some (s, [])
  | .tuple [.str n, .int b, .tuple ms] => if 1 ≤ b ∧ ms ≠ [] then some (n, ms) else none
  | _ => none
def goesB (d : PyData) (ns : List Str) : Bool := match hdM d with
  | none => false
  | some (n, _) => nameB n && decide (n ∉ ns)
theorem allM_other {d : PyData} (h1 : ∀ s, d ≠ .str s) (h2 : ∀ n b ms, d ≠ .tuple [.str n, .int b, .tuple ms]) : allM d = none := by
  unfold allM
  split
  · exact (h1 _ rfl).elim
  · exact (h2 _ _ _ rfl).elim
  · rfl
theorem hdM_other {d : PyData} (h1 : ∀ s, d ≠ .str s) (h2 : ∀ n b ms, d ≠ .tuple [.str n, .int b, .tuple ms]) : hdM d = none := by
  unfold hdM
  split
  · exact (h1 _ rfl).elim
  · exact (h2 _ _ _ rfl).elim
  · rfl
theorem allM_grp (n : Str) (b : Int) (ms : List PyData) : allM (.tuple [.str n, .int b, .tuple ms]) = if 1 ≤ b ∧ ms ≠ [] ∧ nameB n = true then (match allMs ms with | none => none | some r => some (n :: r)) else none := by
  rw [allM]
  all_goals (cases allMs ms <;> rfl)
theorem hdM_grp (n : Str) (b : Int) (ms : List PyData) : hdM (.tuple [.str n, .int b, .tuple ms]) = if 1 ≤ b ∧ ms ≠ [] then some (n, ms) else none := by
  rw [hdM]
def allH : Option (Str × List PyData) → Option (List Str)
  | none => none
  | some (n, ms) => if nameB n = true then (match allMs ms with | none => none | some r => some (n :: r)) else none
theorem allM_hd (d : PyData) : allM d = allH (hdM d) := by
  by_cases c1 : ∃ s, d = .str s
  · obtain ⟨s, rfl⟩ := c1
    rw [allM, hdM, allH, allMs]
  by_cases c2 : ∃ n b ms, d = .tuple [.str n, .int b, .tuple ms]
  · obtain ⟨n, b, ms, rfl⟩ := c2
    rw [allM_grp, hdM_grp]
    by_cases h1 : 1 ≤ b ∧ ms ≠ []
    · rw [if_pos h1, allH]
      by_cases h2 : nameB n = true
      · rw [if_pos ⟨h1.1, h1.2, h2⟩, if_pos h2]
      · rw [if_neg (fun h => h2 h.2.2), if_neg h2]
    · rw [if_neg (fun h => h1 ⟨h.1, h.2.1⟩), if_neg h1, allH]
  rw [allM_other (fun s z => c1 ⟨s, z⟩) (fun n b ms z => c2 ⟨n, b, ms, z⟩), hdM_other (fun s z => c1 ⟨s, z⟩) (fun n b ms z => c2 ⟨n, b, ms, z⟩), allH]
theorem allMs_app : ∀ (a b : List PyData), allMs (a ++ b) = match allMs a with
    | none => none
    | some x => match allMs b with
      | none => none
      | some y => some (x ++ y)
  | [], b => by
    simp only [List.nil_append, allMs]
    cases allMs b <;> rfl
  | d :: a, b => by
    simp only [List.cons_append, allMs]
    rw [allMs_app a b]
    cases allM d with
    | none => rfl
    | some x =>
      cases allMs a with
      | none => rfl
      | some y =>
        cases allMs b with
        | none => rfl
        | some z => simp
def pileB (ds : List PyData) (ns : List Str) : Bool := (within (allMs ds) ns).isSome
theorem pile_nil (ns : List Str) : pileB [] ns = true := by
  simp [pileB, allMs, within]
theorem within_some {o : Option (List Str)} {ns : List Str} : (within o ns).isSome = true ↔ ∃ l, o = some l ∧ l.Nodup ∧ ∀ n ∈ l, n ∉ ns := by
  cases o with
  | none => simp [within]
  | some l =>
    simp only [within]
    by_cases h : l.Nodup ∧ ∀ n ∈ l, n ∉ ns
    · rw [if_pos h]
      exact ⟨fun _ => ⟨l, rfl, h⟩, fun _ => rfl⟩
    · rw [if_neg h]
      exact ⟨fun z => (Bool.false_ne_true z).elim, fun ⟨l', e, h'⟩ => by cases e; exact (h h').elim⟩
theorem pile_stop {a : List PyData} {d : PyData} {ns : List Str} (h : goesB d ns = false) : pileB (a ++ [d]) ns = false := by
  rw [← Bool.not_eq_true]
  intro hp
  obtain ⟨l, e, nd, hn⟩ := within_some.mp hp
  rw [allMs_app] at e
  simp only [allMs] at e
  rw [allM_hd d] at e
  unfold goesB at h
  cases hd : hdM d with
  | none =>
    rw [hd, allH] at e
    cases hx : allMs a with
    | none => rw [hx] at e; cases e
    | some x => rw [hx] at e; cases e
  | some r =>
    obtain ⟨n, ms⟩ := r
    rw [hd] at e h
    rw [allH] at e
    simp only at h
    cases hx : allMs a with
    | none => rw [hx] at e; cases e
    | some x =>
      rw [hx] at e
      by_cases h1 : nameB n = true
      · rw [if_pos h1] at e
        cases hy : allMs ms with
        | none => rw [hy] at e; cases e
        | some y =>
          rw [hy] at e
          simp only [List.append_nil, Option.some.injEq] at e
          subst e
          rw [h1, Bool.true_and] at h
          exact hn n (by simp) (by simpa using h)
      · rw [if_neg h1] at e
        cases e
theorem pile_step {a ms : List PyData} {d : PyData} {n : Str} {ns : List Str} (hd : hdM d = some (n, ms)) (h1 : nameB n = true) (h2 : n ∉ ns) : pileB (a ++ [d]) ns = pileB (a ++ ms) (ns ++ [n]) := by
  have e1 : allMs [d] = match allMs ms with | none => none | some r => some (n :: r) := by
    simp only [allMs]
    rw [allM_hd d, hd, allH, if_pos h1]
    cases allMs ms with
    | none => rfl
    | some r => simp
  have hm : ∀ (x y : List Str), ((x ++ n :: y).Nodup ∧ ∀ m ∈ x ++ n :: y, m ∉ ns) ↔ ((x ++ y).Nodup ∧ ∀ m ∈ x ++ y, m ∉ ns ++ [n]) := by
    intro x y
    have hp : (x ++ n :: y).Perm (n :: (x ++ y)) := List.perm_middle
    rw [hp.nodup_iff, List.nodup_cons]
    constructor
    · rintro ⟨⟨a1, a2⟩, a3⟩
      refine ⟨a2, fun m hm => ?_⟩
      have := a3 m (hp.mem_iff.mpr (List.mem_cons_of_mem _ hm))
      intro z
      rcases List.mem_append.mp z with z | z
      · exact this z
      · rw [List.mem_singleton.mp z] at hm
        exact a1 hm
    · rintro ⟨a2, a3⟩
      refine ⟨⟨fun z => a3 n z (by simp), a2⟩, fun m hm => ?_⟩
      rcases List.mem_cons.mp (hp.mem_iff.mp hm) with z | z
      · rw [z]; exact h2
      · exact fun w => a3 m z (List.mem_append_left _ w)
  rw [Bool.eq_iff_iff]
  unfold pileB
  rw [within_some, within_some, allMs_app, allMs_app, e1]
  cases allMs a with
  | none => simp
  | some x =>
    cases allMs ms with
    | none => simp
    | some y =>
      simp only [Option.some.injEq]
      constructor
      · rintro ⟨l, rfl, h⟩
        exact ⟨_, rfl, (hm x y).mp h⟩
      · rintro ⟨l, rfl, h⟩
        exact ⟨_, rfl, (hm x y).mpr h⟩
theorem pile_plan {d : PyData} (h : ∀ s, d ≠ .str s) : planB d = pileB [d] [] := by
  unfold planB pileB
  have e : fitG d [] = fitM d [] := by
    cases d with
    | str s => exact (h s rfl).elim
    | _ => rfl
  rw [e, fit_all]
  simp only [allMs]
  cases allM d with
  | none => rfl
  | some l => simp
theorem nodess_app : ∀ (a b : List PyData), nodess (a ++ b) = nodess a + nodess b
  | [], b => by simp [nodess]
  | x :: a, b => by simp only [List.cons_append, nodess, nodess_app a b]; omega
theorem hdM_nodes {d : PyData} {n : Str} {ms : List PyData} (h : hdM d = some (n, ms)) : nodess ms + 1 ≤ nodes d := by
  unfold hdM at h
  split at h
  · cases h
    simp [nodess, nodes]
  · split at h
    · cases h
      simp only [nodes, nodess]
      omega
    · cases h
  · cases h
theorem hdM_shorts {d : PyData} {n : Str} {ms : List PyData} (h : hdM d = some (n, ms)) (s : shorts d) : shortss ms := by
  unfold hdM at h
  split at h
  · cases h
    trivial
  · split at h
    · cases h
      simp only [shorts, shortss] at s
      exact s.2.2.1
    · cases h
  · cases h
theorem shortss_app : ∀ {a b : List PyData}, shortss (a ++ b) ↔ shortss a ∧ shortss b
  | [], b => by simp [shortss]
  | x :: a, b => by simp only [List.cons_append, shortss, shortss_app (a := a), and_assoc]
theorem nodes_pos (d : PyData) : 1 ≤ nodes d := by cases d <;> simp [nodes]
theorem len_nodess : ∀ (ds : List PyData), ds.length ≤ nodess ds
  | [] => Nat.zero_le _
  | d :: ds => by
    have := nodes_pos d
    have := len_nodess ds
    simp only [List.length_cons, nodess]
    omega
theorem q_whenM {t : TT} {tu tz : TS} {D : Ends} {σ : L2.St} {H : Hp} {b : Bool} (M : L2.St → Hp → Prop) (h : EvT t σ H b) (k : ∀ σ' H', M σ' H' → tz D σ' H')
    (h1 : ∀ R : L2.St → Hp → Prop, (∀ σ' H', M σ' H' → R σ' H') → b = true → ∀ H1, Ex H H1 → tu { D with nx := R } σ H1) (h2 : b = false → ∀ H1, Ex H H1 → M σ H1) : tSeq (tIfS t tu tNext) tz D σ H :=
  q_when h (h1 (tz D) k) fun hb H1 e => k σ H1 (h2 hb H1 e)
theorem s_dropP {te : TE} {D : Ends} {σ : L2.St} {H : Hp} (h : te σ H fun v H1 => D.nx σ H1) : tDrop te D σ H := h
theorem dxa_snoc {K : PySem.W.Frag} {H : Hp} : ∀ {vs : List V} {ds : List PyData}, DxAll K H vs ds → ds ≠ [] → ∃ us x es d, vs = us ++ [x] ∧ ds = es ++ [d] ∧ DxAll K H us es ∧ Dx K H x d
  | _, _, .nil, h => (h rfl).elim
  | _, _, .cons (v := v) (vs := []) (d := d) (ds := ds) h1 h2, _ => by
    cases h2
    exact ⟨[], v, [], d, rfl, rfl, .nil, h1⟩
  | _, _, .cons (v := v) (vs := w :: vs) (d := d) (ds := ds) h1 h2, _ => by
    have hne : ds ≠ [] := by
      cases h2
      exact List.cons_ne_nil _ _
    obtain ⟨us, x, es, e, a1, a2, a3, a4⟩ := dxa_snoc h2 hne
    exact ⟨v :: us, x, d :: es, e, by rw [a1]; rfl, by rw [a2]; rfl, .cons h1 a3, a4⟩
theorem dxa_app {K : PySem.W.Frag} {H : Hp} {ws : List V} {es : List PyData} (h2 : DxAll K H ws es) : ∀ {vs : List V} {ds : List PyData}, DxAll K H vs ds → DxAll K H (vs ++ ws) (ds ++ es)
  | _, _, .nil => h2
  | _, _, .cons a b => .cons a (dxa_app h2 b)
end NL

/-! a comprehension with two for: what is in tuples of a tuple, one behind the other -/
namespace NL
open PySem L2 Evl
theorem piTK {X : Cx} {K : PySem.W.Frag} {tg e : Expr} {tl : TE} (hK : X.K = K) (he : PE X e tl) : PI X tg e (iTup K tl) := by
  subst hK
  exact pi_tup he
theorem flat_take {yss : List (List V)} {i : Nat} {ys : List V} (h : yss[i]? = some ys) : (yss.take (i + 1)).flatten = (yss.take i).flatten ++ ys := by
  obtain ⟨hi, rfl⟩ := List.getElem?_eq_some_iff.mp h
  rw [List.take_succ_eq_append_getElem hi, List.flatten_append]
  simp
theorem flat_le {yss : List (List V)} {i j : Nat} {ys : List V} (h : yss[i]? = some ys) (hj : j ≤ ys.length) : ((yss.take i).flatten ++ ys.take j).length ≤ yss.flatten.length := by
  have e : yss.flatten = (yss.take (i + 1)).flatten ++ (yss.drop (i + 1)).flatten := by
    rw [← List.flatten_append, List.take_append_drop]
  rw [e, flat_take h]
  simp only [List.length_append, List.length_take]
  omega
theorem el_lc2T {K : PySem.W.Frag} {σ : L2.St} {H : Hp} {a : Addr} {xs : List V} {tl : TE} {j j1 : Nat} {vs vs1 : List Nat} (yss : List (List V)) (src : Ev tl σ H (.ref a)) (held : SqT K H a xs) (inner : ∀ (i : Nat) (x : V), xs[i]? = some x → ∃ b ys, x = V.ref b ∧ yss[i]? = some ys ∧ SqT K H b ys) (hlen : yss.length = xs.length) (few : yss.flatten.length ≤ 40000)
    (c1 : ∀ x, wipe ((wipe σ vs).set j (some x)) vs = wipe σ vs) (h1 : ∀ x, ((wipe σ vs).set j (some x))[j]? = some (some x))
    (c2 : ∀ x y, wipe ((wipe ((wipe σ vs).set j (some x)) vs1).set j1 (some y)) vs1 = wipe ((wipe σ vs).set j (some x)) vs1) (h2 : ∀ x y, ((wipe ((wipe σ vs).set j (some x)) vs1).set j1 (some y))[j1]? = some (some y)) :
    EvL (tLc2 (iTup K tl) (gName j) tYes (iTup K (tVar j)) (gName j1) tYes (tVar j1) vs vs1) σ H yss.flatten := by
  intro H0 e0 Q next
  refine src H0 e0 _ fun H1 e1 => ?_
  have e01 : Ex H H1 := e0.trans e1
  refine ⟨a, rfl, ⟨xs, ex_t e01 held⟩, fun D hD => ?_⟩
  refine ⟨fun i m H' => m = xs.length - i ∧ i ≤ xs.length ∧ Ex H1 H' ∧ H' D = some (.lst (yss.take i).flatten), ⟨xs.length, by simp, Nat.zero_le _, Ex.new hD, by rw [upd_same]; rfl⟩, ?_⟩
  rintro i m H2 ⟨rfl, hi, e2, hD2⟩
  have q2 : SqT K H2 a xs := ex_t (e01.trans e2) held
  by_cases hlt : i < xs.length
  · refine .inr ⟨⟨xs, xs[i], q2, by simp [hlt]⟩, fun H' => Ex H1 H' ∧ H' D = some (.lst (yss.take (i + 1)).flatten), fun H' p' => ⟨xs.length - (i + 1), by omega, rfl, hlt, p'.1, p'.2⟩, fun x H3 y => ?_⟩
    obtain ⟨rfl, y⟩ := y
    have hx := y xs q2
    obtain ⟨b, ys, rfl, hys, hb⟩ := inner i x hx
    refine ⟨c1 _, ?_⟩
    refine ⟨.ref b, h1 _, b, rfl, ⟨_, ex_t (e01.trans e2) hb⟩, ?_⟩
    refine ⟨fun j' k H' => k = ys.length - j' ∧ j' ≤ ys.length ∧ Ex H1 H' ∧ H' D = some (.lst ((yss.take i).flatten ++ ys.take j')), ⟨_, rfl, Nat.zero_le _, e2, by rw [hD2]; simp⟩, ?_⟩
    rintro j' k H4 ⟨rfl, hj', e4, hD4⟩
    have q4 : SqT K H4 b ys := ex_t (e01.trans e4) hb
    by_cases hlt2 : j' < ys.length
    · refine .inr ⟨⟨_, ys[j'], q4, by simp [hlt2]⟩, fun H' => Ex H1 H' ∧ H' D = some (.lst ((yss.take i).flatten ++ ys.take (j' + 1))), fun H' p' => ⟨ys.length - (j' + 1), by omega, rfl, hlt2, p'.1, p'.2⟩, fun z H5 y2 => ?_⟩
      obtain ⟨rfl, y2⟩ := y2
      have hz := y2 _ q4
      refine ⟨c2 _ _, ?_⟩
      have hle := flat_le hys (Nat.le_of_lt hlt2)
      refine ⟨z, h2 _ _, _, hD4, sz_lt (by omega), Ex.mut e4 hD, ?_⟩
      rw [upd_same, List.append_assoc]
      congr 3
      obtain ⟨hh, rfl⟩ := List.getElem?_eq_some_iff.mp hz
      rw [List.take_succ_eq_append_getElem hh]
    · have e : j' = ys.length := by omega
      subst e
      refine .inl ⟨⟨_, q4, Nat.le_refl _⟩, e4, ?_⟩
      rw [hD4, List.take_length, flat_take hys]
  · have e : i = xs.length := by omega
    subst e
    rw [← hlen, List.take_length] at hD2
    exact .inl ⟨⟨xs, q2, Nat.le_refl _⟩, next D H2 (fresh_back e1 hD) (e1.trans e2) hD2⟩
/-- over a new list -/
theorem el_lcN {K : PySem.W.Frag} {σ : L2.St} {H : Hp} {xs : List V} {tl te : TE} {tt : TT} {j : Nat} {vs : List Nat} (f : Nat → Bool) (g : Nat → V) (src : EvL tl σ H xs) (few : xs.length ≤ 40000) (clean : ∀ x, wipe ((wipe σ vs).set j (some x)) vs = wipe σ vs)
    (test : ∀ (i : Nat) (x : V) H1, Ex H H1 → xs[i]? = some x → EvT tt ((wipe σ vs).set j (some x)) H1 (f i)) (give : ∀ (i : Nat) (x : V) H1, Ex H H1 → xs[i]? = some x → f i = true → Ev te ((wipe σ vs).set j (some x)) H1 (g i)) :
    EvL (tLc (iList K tl) (gName j) tt te vs) σ H (given xs.length f g) := by
  intro H0 e0 Q next
  refine src H0 e0 _ fun a H1 ha e1 held => ?_
  have e01 : Ex H H1 := e0.trans e1
  refine ⟨a, rfl, ⟨xs, sq_of held⟩, fun made fresh => ?_⟩
  refine lc_list (xs := xs) (Cw H1 f g made) ⟨fresh, Ex.new fresh, upd_same⟩ ?stays ?turn ?done
  case stays =>
    intro i H' _ inv
    exact sq_of (inv.2.1 _ _ held)
  case turn =>
    intro i x H' at_i inv
    have small : i < 50000 := by
      have := (List.getElem?_eq_some_iff.mp at_i).1
      omega
    exact ⟨clean x, cw_turn inv small (test i x H1 e01 at_i) (give i x H1 e01 at_i)⟩
  case done =>
    intro H2 inv
    exact next made H2 (fresh_back e1 inv.1) (e1.trans inv.2.1) inv.2.2
theorem inSK {X : Cx} {K : PySem.W.Frag} (h : X.K = K) : OpR X (compareOp .In) (rIn K false) := by subst h; exact op_in_seq
theorem notInSK {X : Cx} {K : PySem.W.Frag} (h : X.K = K) : OpR X (compareOp .NotIn) (rIn K true) := by subst h; exact op_notIn_seq
theorem plLK {X : Cx} {K : PySem.W.Frag} {tg e : Expr} {tl : TE} (hK : X.K = K) (he : PE X e tl) : PI X tg e (iList K tl) := by
  subst hK
  exact pi_list he
end NL

/-! sets of texts, made of a list or a tuple; how many are in them -/
namespace NL
open PySem PySem.Spec PyProof.Rows L2 Evl
/-- just these texts lie in the set at S, and as many as they are where all are unlike -/
def TextSet (P : Program) (w : World) (h : Heap) (S : Addr) (xs : List Str) : Prop := ∃ n, h.SetOf (strKind P w) S (fun k => decide (k ∈ xs)) n ∧ n ≤ xs.length ∧ (n = xs.length ↔ xs.Nodup)
theorem nodup_app {xs : List Str} {x : Str} : (xs ++ [x]).Nodup ↔ xs.Nodup ∧ x ∉ xs := by
  rw [List.nodup_append]
  constructor
  · rintro ⟨a, b, c⟩
    exact ⟨a, fun h => c x h x (List.mem_singleton.mpr rfl) rfl⟩
  · rintro ⟨a, b⟩
    exact ⟨a, by simp, fun y hy z hz e => by rw [List.mem_singleton.mp hz] at e; subst e; exact b hy⟩
theorem TextSet.at {P : Program} {w : World} {h h' : Heap} {S : Addr} {xs : List Str} (t : TextSet P w h S xs) (k : ∀ o, h.get? S = some o → h'.get? S = some o) : TextSet P w h' S xs := by
  obtain ⟨n, ⟨o, es, ep, tb, ho, rest⟩, r⟩ := t
  exact ⟨n, ⟨o, es, ep, tb, k _ ho, rest⟩, r⟩
section
variable {P : Program} {w : World} {A : Around} {R : Result → Shared → Prop} {J : Addr} {fp wr : List Addr} {G : Array GenState → Array GenState → Prop} {m : Nat} {V1 : Nat → Value → Prop} {St : Nat → Shared → Prop}
/-- what walks over texts lays them all into the set -/
theorem walk_into (W : WalksS P w A.in1 J fp wr G m V1 St) {S : Addr} (off : S ∉ fp) (xs : List Str) (len : xs.length = m) (few : m + 1 < scanBound) (text : ∀ i v, V1 i v → ∃ t, v = .str (xs.getD i Str.empty) t) :
    ∀ (left i : Nat) (s : Shared), i + left = m → St i s → TextSet P w s.heap S (xs.take i) → (∀ s', Moved (S :: wr) G s s' → TextSet P w s'.heap S xs → R (.ok (.ret .none)) s') →
      codeAny (model P w) A (.builtin "set.update.loop" ⟨[.ref S, .ref J], []⟩) R s := by
  have offw : S ∉ wr := fun z => off (W.sub _ z)
  have more : ∀ b ∈ wr, b ∈ S :: wr := fun b z => List.mem_cons_of_mem _ z
  intro left
  induction left with
  | zero =>
    intro i s hi here has fin
    have e : i = m := by omega
    subst e
    rw [List.take_of_length_le (by omega)] at has
    refine codeAny_builtin PyProof.Rows.F.entry_set_update_loop ?_
    rw [Around.under_plainId PyProof.Rows.F.plain_set_update_loop]
    change wpAny _ A.in1 (pyNext (.ref J) >>= _) _ _ _
    refine wpAny_bind (W.done s _ _ here fun s1 mv => ?_)
    change wpAny _ A.in1 (ret Value.none) _ _ _
    exact wpAny_pure (fin s1 (mv.mono more) (has.at fun o ho => mv.heap S o offw ho))
  | succ left again =>
    intro i s hi here has fin
    refine codeAny_builtin PyProof.Rows.F.entry_set_update_loop ?_
    rw [Around.under_plainId PyProof.Rows.F.plain_set_update_loop]
    change wpAny _ A.in1 (pyNext (.ref J) >>= _) _ _ _
    refine wpAny_bind (W.item i s _ _ (by omega) here fun v s1 hv next mv => ?_)
    obtain ⟨t, rfl⟩ := text i v hv
    have has1 := has.at (h' := s1.heap) fun o ho => mv.heap S o offw ho
    generalize hx : xs.getD i Str.empty = x
    have hlt : i < xs.length := by omega
    have tk1 : xs.take (i + 1) = xs.take i ++ [x] := by
      rw [← hx, List.getD_eq_getElem?_getD, List.getElem?_eq_getElem hlt, List.take_succ_eq_append_getElem hlt]
      rfl
    change wpAny _ A.in1 (holding [Value.str x t] (setAdd S (.str x t)) >>= _) _ _ _
    refine wpAny_bind (wpAny_holding ?_)
    unfold setAdd
    refine wpAny_holding (wpAny_bind ((strKind P w).pyHash (k := x) (strKind_is _ _ _ _) ?_))
    obtain ⟨n, hs, hn, hnd⟩ := has1
    have hl : (xs.take i).length = i := by rw [List.length_take]; omega
    refine wpAny_setAddHashed_of (knd := strKind P w) (s := { s1 with toks := s1.toks + 1 }) (strKind_is _ _ _ _) rfl hs (by omega) fun h2 but hs2 => ?_
    have has2 : TextSet P w h2 S (xs.take (i + 1)) := by
      rw [tk1]
      refine ⟨_, SetOf_congr hs2 (S' := fun k => decide (k ∈ xs.take i ++ [x])) (fun k => ?_) rfl, ?_, ?_⟩
      · simp
      · rw [List.length_append, List.length_singleton]
        split <;> omega
      · rw [nodup_app, List.length_append, List.length_singleton, ← hnd]
        by_cases hm : x ∈ xs.take i
        · rw [if_pos (decide_eq_true hm)]
          constructor
          · intro z
            omega
          · intro z
            exact absurd hm z.2
        · rw [if_neg (by simp [hm])]
          constructor
          · intro z
            exact ⟨by omega, hm⟩
          · intro z
            omega
    refine wpAny_pure ⟨plainId_quiet PyProof.Rows.F.plain_set_update_loop _, again (i + 1) _ (by omega) (W.frame _ s1 _ _ next (Nat.le_succ _) fun b z o e => ?_) has2 fun s2 mv2 has3 => ?_⟩
    · rw [but.2 b (fun y => off (y ▸ z))]
      exact e
    · refine fin s2 (Moved.trans W.gtrans ((mv.mono more).then_heap (Nat.le_succ _) fun b o z e => ?_) mv2) has3
      rw [but.2 b (fun y => z (y ▸ List.mem_cons_self))]
      exact e
end
/-- a set as it is made, with nothing in it -/
abbrev bareSet (led : Bool) : Obj := { cls := .type "set", dict := none, data := .set #[] 0 (.fresh 0 0 led) }
section
variable {P : Program} {w : World} {A : Around} {E : Value → Shared → Prop} {s : Shared} {l : Addr} {its : Array Value} {xs : List Str} {Q : Value → Shared → Prop}
theorem bare_has {h : Heap} {S : Addr} {led : Bool} (e : h.get? S = some (bareSet led)) : TextSet P w h S [] := by
  refine ⟨0, SetOf_congr (S' := fun k => decide (k ∈ ([] : List Str))) ((setObjOf_fresh (knd := strKind P w) led).setOf e (by decide)) (fun k => by simp) rfl, Nat.le_refl _, by simp⟩
/-- set(texts) of a list -/
theorem set_list (calm : A.handled = none) (hl : s.heap.IsList l its) (hx : StrsAre its.toList xs) (few : its.size + 1 < scanBound)
    (told : ∀ (h2 : Heap) (tk : Nat), TextSet P w h2 s.heap.objs.size xs → (∀ b o, b < s.heap.objs.size → s.heap.get? b = some o → h2.get? b = some o) → Q (.ref s.heap.objs.size) { s with heap := h2, toks := tk }) :
    wpAny (model P w) A (call (.type "set") [.ref l]) Q E s := by
  have made := PySem.F.called_set
  obtain ⟨top, rest, mro⟩ := made.mro
  have y1 := made.made
  have y2 := made.sub
  have y3 := made.notType
  have y4 := made.canCreate
  have y5 := PySem.F.typeCall_set_1 (.ref l)
  refine wpAny_call (codeAny_of_tree ?_)
  change wpAny _ _ (callAny (.type "set") _) _ _ _
  refine wpAny_pure ⟨Code.quiet_builtin _ (by decide +kernel), codeAny_builtin PySem.F.entry_type_call ?_⟩
  rw [Around.under_plain (weight_type_call_type "set" [.ref l] []) rfl]
  repeat (any_goals (first | assumption | wp_step))
  refine codeAny_mono (code_set_new_1 (.ref l) (E := E) (Q₁ := fun v s1 => ∃ led : Bool, v = .ref s.heap.objs.size ∧ s1 = { s with heap := s.heap.push (bareSet led) }) fun led => ⟨led, rfl, rfl⟩) fun r s1 got => ?_
  match r, got with
  | .error e, got => exact got
  | .ok .next, got => exact got.elim
  | .ok .brk, got => exact got.elim
  | .ok .cont, got => exact got.elim
  | .ok (.ret v), got =>
    obtain ⟨led, rfl, rfl⟩ := got
    have at1 : (s.heap.push (bareSet led)).get? s.heap.objs.size = some (bareSet led) := Heap.get?_push_size _ rfl
    have ty1 : Shared.TypeIs { s with heap := s.heap.push (bareSet led) } (.ref s.heap.objs.size) "set" := ⟨_, at1, rfl⟩
    have y6 := made.init.lookup
    have y7 := made.init.bind (.ref s.heap.objs.size)
    repeat (any_goals (first | assumption | wp_step))
    refine codeAny_mono (codeAny_call_builtin (R := wants (fun u s2 => u = .none ∧ ∃ h2 tk, s2 = { s with heap := h2, toks := tk } ∧ TextSet P w h2 s.heap.objs.size xs ∧ ∀ b o, b < s.heap.objs.size → s.heap.get? b = some o → h2.get? b = some o) E) made.init.plain PySem.F.entry_set_init (check_set_init_1 ty1 ?_)) fun r2 s2 got2 => ?_
    · obtain ⟨ob, at2, cl, nn, dt⟩ := hl
      obtain ⟨_, od, _, os⟩ := ob
      simp only at cl dt
      subst cl dt
      have at3 := Heap.get?_push_of_some (bareSet led) at2
      have y8 := PySem.F.sub_list_set
      have y9 := PySem.F.sub_list_frozenset
      have y0 : (Value.type "list" == Value.type "dict") = false := by decide
      have lst1 : (s.heap.push (bareSet led)).IsList l its := ⟨_, at3, rfl, nn, rfl⟩
      unfold Builtin.«set.__init__» noKeywords Builtin.Frozenset.updateFrom
      generalize hit : pyIter = it
      wp_walk
      subst hit
      refine wpAny_pyIter_list lst1 (wpAny_bind (wpAny_runValue ?_))
      have low : l < s.heap.objs.size := Heap.lt_size at2
      have apart : l ≠ (s.heap.push (bareSet led)).objs.size := by
        rw [Heap.size_push]
        exact Nat.ne_of_lt (Nat.lt_succ_of_lt low)
      have off : s.heap.objs.size ∉ [(s.heap.push (bareSet led)).objs.size, l] := by
        rw [Heap.size_push]
        simp only [List.mem_cons, List.not_mem_nil, or_false, not_or]
        exact ⟨Nat.ne_of_lt (Nat.lt_succ_self _), Nat.ne_of_gt low⟩
      have len : xs.length = its.size := by
        rw [← StrsAre.len_eq hx, Array.length_toList]
      refine walk_into ((Walks.list (by simp [calm]) _ l apart its).toS) off xs len few (fun i v hv => SS.strs_at hx i v (by rw [Array.getElem?_toList]; exact hv)) its.size 0 _ (by omega) ⟨⟨_, Heap.get?_push_size _ rfl, rfl, rfl⟩, lst1.push _⟩ ?first ?last
      case first =>
        exact bare_has (led := led) (Heap.get?_push_of_some _ at1)
      case last =>
        intro s3 mv has
        obtain ⟨h3, g3, d3, t3, o3⟩ := s3
        have e1 : g3 = s.gens := mv.gens
        have e2 : d3 = s.drawn := mv.drawn
        have e3 : o3 = s.os := mv.os
        subst e1 e2 e3
        change wpAny _ _ _ _ _ _
        refine wpAny_pure ?_
        change wpAny _ _ (ret Value.none) _ _ _
        refine wpAny_pure ⟨rfl, h3, t3, rfl, has, fun b o lt e => mv.heap b o ?_ (Heap.get?_push_of_some _ (Heap.get?_push_of_some _ e))⟩
        rw [Heap.size_push]
        simp only [List.mem_cons, List.not_mem_nil, or_false, not_or]
        exact ⟨Nat.ne_of_lt lt, Nat.ne_of_lt (Nat.lt_succ_of_lt lt)⟩
    · match r2, got2 with
      | .error e, got2 => exact got2
      | .ok .next, got2 => exact got2.elim
      | .ok .brk, got2 => exact got2.elim
      | .ok .cont, got2 => exact got2.elim
      | .ok (.ret u), got2 =>
        obtain ⟨rfl, h2, tk, rfl, has, old⟩ := got2
        repeat (any_goals (first | assumption | wp_step))
        exact told h2 tk has old
end
/-- the set at a, of these texts -/
def SetX (P : Program) (w : World) (a : Addr) (xs : List Str) : HO := .ext fun h => TextSet P w h a xs
section
variable {X : Cx}
def rSetX (P : Program) (w : World) (K : PySem.W.Frag) : List V → Hp → VK → Prop := fun vs H Q => ∃ (l : Addr) (xs : List Str), vs = [.ref l] ∧ SqL K H l (xs.map V.str) ∧ xs.length ≤ 4000 ∧ ∀ p, H p = none → Q (.ref p) (upd H p (SetX P w p xs))
theorem setXK {K : PySem.W.Frag} {P : Program} {w : World} (h : X.K = K) (hP : X.prog = P) (hw : X.w = w) (hc : X.calm = true) : CallR X (.type "set") (rSetX P w K) := by
  subst h hP hw
  intro pins s σ H vs us Q I rel told
  obtain ⟨l, xs, rfl, hl, few, q⟩ := told
  obtain ⟨u, rfl, ru⟩ := vals1 rel
  cases ru
  obtain ⟨its, rv, pl, hz⟩ := I.list hl
  have len := rv.length
  rw [List.length_map] at len
  refine set_list (I.ok.hd hc) pl.isList (by simpa using strsAre_of rv) (by rw [List.size_toArray, ← len]; unfold scanBound; omega) fun h2 tk has old => ?_
  have ob : ∃ o, h2.get? s.heap.objs.size = some o := by
    obtain ⟨n, ⟨o, _, _, _, ho, _⟩, _⟩ := has
    exact ⟨o, ho⟩
  refine ⟨.ref s.heap.objs.size, _, I.laid (o := SetX X.prog X.w s.heap.objs.size xs) (fun b o e => old b o (Heap.lt_size e) e) (Nat.le_refl _) ⟨has, ob, fun h3 h4 t k => TextSet.at t k⟩, rfl, q _ (I.hok.fresh (Nat.le_refl _))⟩
def rLenX (P : Program) (w : World) : List V → Hp → VK → Prop := fun vs H Q => ∃ (a : Addr) (xs : List Str), vs = [.ref a] ∧ H a = some (SetX P w a xs) ∧ xs.length ≤ 4000 ∧ ∀ n : Nat, (n = xs.length ↔ xs.Nodup) → Q (.int n) H
theorem lenXK {P : Program} {w : World} (hP : X.prog = P) (hw : X.w = w) : CallR X (.builtin "len") (rLenX P w) := by
  subst hP hw
  intro pins s σ H vs us Q I rel told
  obtain ⟨a, xs, rfl, ha, few, q⟩ := told
  obtain ⟨u, rfl, ru⟩ := vals1 rel
  cases ru
  obtain ⟨n, ⟨o, es, ep, t, ho, hex, hd, _, _, _, hf, hn⟩, le, iff⟩ := (I.hok a _ ha).1
  refine call_len_set ho hex hd hf (by rw [hn]; omega) ⟨.int n, H, I.tok _, ⟨_, by rw [hn]⟩, q n iff⟩
end
end NL

/-! sequences against empty ones; xs[::-1] of a tuple; data with their dicts, repr and str of them -/
namespace NL
open PySem PySem.Spec PyProof.Rows L2 Evl
section
variable {X : Cx} {K : PySem.W.Frag}
def rEqT0 (K : PySem.W.Frag) (f : Bool → Bool) : R2 := fun x y H Q => ∃ a b xs, x = .ref a ∧ y = .ref b ∧ SqT K H a xs ∧ SqT K H b [] ∧ Q (.bl (f xs.isEmpty)) H
def rEqL0 (K : PySem.W.Frag) (f : Bool → Bool) : R2 := fun x y H Q => ∃ a b xs, x = .ref a ∧ y = .ref b ∧ SqL K H a xs ∧ SqL K H b [] ∧ Q (.bl (f xs.isEmpty)) H
theorem vals0 {us : List Value} (h : Vals [] us) : us = [] := by cases h; rfl
theorem vals_isE {xs : List V} {us : List Value} (h : Vals xs us) : us.isEmpty = xs.isEmpty := by
  cases h <;> rfl
theorem size_isE (us : List Value) : (us.toArray.size == ([] : List Value).toArray.size) = us.isEmpty := by
  cases us <;> simp
theorem eqT0K (h : X.K = K) (hu : X.A.units < cLine) : OpR X (compareOp .Eq) (rEqT0 K id) := by
  subst h
  intro pins s σ H x y v u Q I rx ry told
  obtain ⟨a, b, xs, rfl, rfl, ha, hb, q⟩ := told
  cases rx
  cases ry
  obtain ⟨its, r1, p1, _⟩ := I.tuple ha
  obtain ⟨its2, r2, p2, _⟩ := I.tuple hb
  have e := vals0 r2
  subst e
  refine SeqAt.eq_tupleAt (e := fun _ => true) p1 p2 hu (fun j _ h2 => absurd h2 (by simp)) ?_
  refine ⟨.bl xs.isEmpty, H, I, ?_, q⟩
  rw [size_isE, vals_isE r1]
  simp
  rfl
theorem neT0K (h : X.K = K) (hu : X.A.units < cLine) : OpR X (compareOp .NotEq) (rEqT0 K not) := by
  subst h
  intro pins s σ H x y v u Q I rx ry told
  obtain ⟨a, b, xs, rfl, rfl, ha, hb, q⟩ := told
  cases rx
  cases ry
  obtain ⟨its, r1, p1, _⟩ := I.tuple ha
  obtain ⟨its2, r2, p2, _⟩ := I.tuple hb
  have e := vals0 r2
  subst e
  refine SeqAt.RcNeAt.tuples (e := fun _ => true) p1 p2 hu (fun j _ h2 => absurd h2 (by simp)) _ _ _ _ ?_
  refine ⟨.bl (!xs.isEmpty), H, I, ?_, q⟩
  rw [size_isE, vals_isE r1]
  simp
  rfl
theorem eqL0K (h : X.K = K) (hu : X.A.units < cLine) : OpR X (compareOp .Eq) (rEqL0 K id) := by
  subst h
  intro pins s σ H x y v u Q I rx ry told
  obtain ⟨a, b, xs, rfl, rfl, ha, hb, q⟩ := told
  cases rx
  cases ry
  obtain ⟨its, r1, p1, _⟩ := I.list ha
  obtain ⟨its2, r2, p2, _⟩ := I.list hb
  have e := vals0 r2
  subst e
  have ie := vals_isE r1
  cases its with
  | nil =>
    refine SeqAt.eq_listAt (e := fun _ => true) p1.isList p2.isList rfl hu (fun j _ h2 => absurd h2 (by simp)) ?_
    refine ⟨.bl xs.isEmpty, H, I, ?_, q⟩
    rw [← ie]
    rfl
  | cons i r =>
    refine SeqAt.eq_list_lengthsAt p1.isList p2.isList (by simp) hu ?_
    refine ⟨.bl xs.isEmpty, H, I, ?_, q⟩
    rw [← ie]
    rfl
end
/-! ### xs[::-1] of a tuple -/
theorem back_places (n : Nat) : Builtin.Slice.sliceAdjust none none (-1) (n : Int) = ((n : Int) - 1, -1) ∧ Builtin.Slice.slicePlaces ((n : Int) - 1) (-1) (-1) = n := by
  constructor
  · simp [Builtin.Slice.sliceAdjust]
  · unfold Builtin.Slice.slicePlaces
    simp
    omega
theorem back_items (xs : Array Value) : ((List.range xs.size).filterMap fun (k : Nat) => xs[(((xs.size : Int) - 1) + (k : Int) * (-1)).toNat]?).toArray = xs.toList.reverse.toArray := by
  have e : (List.range xs.size).filterMap (fun (k : Nat) => xs[(((xs.size : Int) - 1) + (k : Int) * (-1)).toNat]?) = ((List.range xs.size).map fun k => xs.size - 1 - k).filterMap (fun j => xs[j]?) := by
    rw [List.filterMap_map]
    have all : ∀ l : List Nat, (∀ k ∈ l, k < xs.size) → l.filterMap (fun (k : Nat) => xs[(((xs.size : Int) - 1) + (k : Int) * (-1)).toNat]?) = l.filterMap ((fun j => xs[j]?) ∘ fun k => xs.size - 1 - k) := by
      intro l
      induction l with
      | nil => intro _; rfl
      | cons k l ih =>
        intro h
        have := h k (List.mem_cons_self ..)
        have e2 : (((xs.size : Int) - 1) + (k : Int) * (-1)).toNat = xs.size - 1 - k := by omega
        rw [List.filterMap_cons, List.filterMap_cons, e2, ih fun y hy => h y (List.mem_cons_of_mem _ hy)]
        rfl
    exact all _ fun k hk => List.mem_range.mp hk
  rw [e, PySem.W.krv_range, List.filterMap_reverse, PySem.W.krv_all]
section
variable {P : Program} {w : World} {A : Around} {E : Value → Shared → Prop} {s : Shared}
theorem getItem_back {t sl : Addr} {its : Array Value} {vk : Value} {Q : Value → Shared → Prop} (ht : IsTup s.heap t its) (hs : s.heap.IsSliceOf sl .none .none vk) (pk : IsPart vk (some (-1))) (few : its.size ≤ sizeLine)
    (q : Q (.ref s.heap.objs.size) { s with heap := s.heap.push { cls := .type "tuple", data := .seq its.toList.reverse.toArray } }) : wpAny (model P w) A (getItem (.ref t) (.ref sl)) Q E s := by
  have fits : sizeOk (.seq its.toList.reverse.toArray) := by
    change its.toList.reverse.toArray.size ≤ sizeLine
    simpa using few
  obtain ⟨os, h1, h2, h3⟩ := id hs
  have ty : s.TypeIs (.ref sl) "slice" := ⟨os, h1, h2⟩
  unfold getItem
  try with_reducible refine wpAny_holding ?_
  first | refine wpAny_bind (wpAny_pure ?_) | skip
  refine wpAny_bind (wpAny_sequenceKey ht.typeIs (by decide) ?_)
  refine wpAny_bind (wpAny_callSpecial?_slot (name := Str.ofString "__getitem__") ht.typeIs PyProof.Rows.slot_tuple_getitem (wpAny_call_entry PyProof.Rows.slot_tuple_getitem ht.typeIs entry_tuple_getitem ?_ (args_tuple_getitem _ _)))
  change wpAny _ _ (Builtin.Tuple.tupleItemsOf (.ref t) >>= _) _ _ _
  refine wpAny_bind (tupleItemsOf_ ht (wpAny_bind (wpAny_typeOf ty ?_)))
  rw [if_pos (by decide)]
  refine wpAny_bind ?_
  unfold Builtin.Slice.sliceApplied Builtin.Slice.sliceFields
  refine wpAny_bind (wpAny_bind (wpAny_field h1 h3 (x := .none) rfl (wpAny_bind (wpAny_field h1 h3 (x := .none) rfl (wpAny_bind (wpAny_field h1 h3 (x := vk) rfl (wpAny_pure ?_)))))))
  refine wpAny_bind (HT.slicePart_ pk ?_)
  change wpAny _ _ (if ((-1 : Int) == 0) = true then _ else _) _ _ _
  rw [if_neg (by decide)]
  refine wpAny_bind (slicePart_none (wpAny_bind (slicePart_none (wpAny_bind (wpAny_pure ?_)))))
  change wpAny _ _ (match Builtin.Slice.sliceAdjust none none (-1) (its.size : Int) with | (lo, hi) => pure (lo, (-1 : Int), Builtin.Slice.slicePlaces lo hi (-1))) _ _ _
  rw [(back_places its.size).1]
  change wpAny _ _ (pure ((its.size : Int) - 1, (-1 : Int), Builtin.Slice.slicePlaces ((its.size : Int) - 1) (-1) (-1))) _ _ _
  rw [(back_places its.size).2]
  refine wpAny_pure ?_
  change wpAny _ _ (if (((its.size : Int) - 1 == 0 && (-1 : Int) == 1 && its.size == its.size) = true) then _ else _) _ _ _
  rw [if_neg (by simp), back_items]
  first
    | exact wpAny_bind (m := Builtin.Tuple.tupleExact _) (wpAny_newObj_type (wpAny_pure ⟨_, rfl, wpAny_pure q⟩) fits)
    | exact wpAny_bind (m := Builtin.Tuple.tupleExact _) (wpAny_newObj_type (wpAny_bind (wpAny_pure (wpAny_pure ⟨_, rfl, wpAny_pure q⟩))) fits)
    | exact wpAny_bind (wpAny_bind (m := Builtin.Tuple.tupleExact _) (wpAny_newObj_type (wpAny_pure (wpAny_pure ⟨_, rfl, wpAny_pure q⟩)) fits))
    | exact wpAny_bind (wpAny_bind (m := Builtin.Tuple.tupleExact _) (wpAny_newObj_type (wpAny_pure ⟨_, rfl, wpAny_pure q⟩) fits))
end
def tRevT (K : PySem.W.Frag) (te : TE) : TE := fun σ H Q => te σ H fun x H1 => ∃ a xs, x = .ref a ∧ SqT K H1 a xs ∧ ∀ p, H1 p = none → Q (.ref p) (upd H1 p (.tup xs.reverse))
section
variable {X : Cx}
theorem pe_revT {e : Expr} {te : TE} {k : Nat} {p1 p2 p3 pos : Pos} {K : PySem.W.Frag} (hK : X.K = K) (he : PE X e te) : PE X (.Subscript e (.Slice none none (some (.UnaryOp .USub (.Constant (.int 1) k p1) p2)) p3) pos) (tRevT K te) := by
  subst hK
  constructor
  intro pins s σ H Q I reading
  refine Subscript_ (thn (he.run pins s σ H _ I reading) fun v s1 got => ?_)
  obtain ⟨x, H1, I1, r1, a, xs, rfl, hx, q⟩ := got
  cases r1
  have part : PO X (some (.UnaryOp .USub (.Constant (.int 1) k p1) p2)) (tPart (tUn (rU fun i => .int (-i)) (tC (.int 1)))) := po_some (pe_un un_neg pe_int)
  refine wpAny_Slice (thn (po_none.run pins s1 σ H1 (fun o H2 => o = none ∧ H2 = H1) I1 ⟨rfl, rfl⟩) fun v2 s2 g2 => ?_)
  obtain ⟨o2, H2, I2, p2', rfl, rfl⟩ := g2
  refine thn (po_none.run pins s2 σ H2 (fun o H3 => o = none ∧ H3 = H2) I2 ⟨rfl, rfl⟩) fun v3 s3 g3 => ?_
  obtain ⟨o3, H3, I3, p3', rfl, rfl⟩ := g3
  refine thn (part.run pins s3 σ H3 (fun o H4 => o = some (-1) ∧ H4 = H3) I3 ⟨1, rfl, -1, rfl, rfl, rfl⟩) fun v4 s4 g4 => ?_
  obtain ⟨o4, H4, I4, p4', rfl, rfl⟩ := g4
  cases p2'
  cases p3'
  have I5 : Inv X pins σ H4 { s4 with heap := s4.heap.push { cls := .type "slice", data := .fields #[Value.none, Value.none, v4] } } := I4.kept (t' := s4.toks) fun b ob z => Heap.get?_push_of_some _ z
  obtain ⟨its, r, ht, hz⟩ := I5.tuple hx
  have len := r.length
  change wpAny (model X.prog X.w) X.A (subscriptTail e (.Slice none none (some (.UnaryOp .USub (.Constant (.int 1) k p1) p2)) p3) (.ref a) (.ref s4.heap.objs.size)) (EP X pins σ Q) X.xe { s4 with heap := s4.heap.push { cls := .type "slice", data := .fields #[Value.none, Value.none, v4] } }
  refine tail_any (ops := [.ref a, .ref s4.heap.objs.size]) ht.typeIs PyProof.Rows.slot_tuple_getitem.lookup ?_ (by with_unfolding_all rfl)
  refine getItem_back ht (Heap.IsSliceOf.new _ Value.none Value.none v4) p4' (by rw [List.size_toArray, ← len]; exact hz) ?_
  refine ⟨.ref _, _, I5.laid (t' := s4.toks) (o := .tup xs.reverse) (fun b ob z => Heap.get?_push_of_some _ z) (Nat.le_refl _) ?_, rfl, q _ (I5.hok.fresh (Nat.le_refl _))⟩
  refine ⟨by rw [List.length_reverse]; exact hz, its.reverse, r.reverse, _, Heap.get?_push_size _ rfl, rfl, 0, by simp⟩
end
/-! ### data with all that is in them -/
mutual
inductive Dy (K : PySem.W.Frag) (H : Hp) : V → PyData → Prop
  | non : Dy K H .non .none
  | bl (b : Bool) : Dy K H (.bl b) (.bool b)
  | int (i : Int) : Dy K H (.int i) (.int i)
  | str (x : Str) : Dy K H (.str x) (.str x)
  | lst {a : Addr} {xs : List V} {ds : List PyData} : H a = some (.lst xs) → DyAll K H xs ds → Dy K H (.ref a) (.list ds)
  | tup {a : Addr} {xs : List V} {ds : List PyData} : SqT K H a xs → DyAll K H xs ds → Dy K H (.ref a) (.tuple ds)
  | dct {a : Addr} : H a = some (.dK []) → Dy K H (.ref a) (.dict [])
  | dc1 {a : Addr} {z : Str} {v : V} {d : PyData} : H a = some (.dK [(Sum.inr z, v)]) → Dy K H v d → Dy K H (.ref a) (.dict [(.str z, d)])
inductive DyAll (K : PySem.W.Frag) (H : Hp) : List V → List PyData → Prop
  | nil : DyAll K H [] []
  | cons {v : V} {vs : List V} {d : PyData} {ds : List PyData} : Dy K H v d → DyAll K H vs ds → DyAll K H (v :: vs) (d :: ds)
end
mutual
theorem dy_mono {K : PySem.W.Frag} {H H' : Hp} (e : Ex H H') : ∀ {d : PyData} {v : V}, Dy K H v d → Dy K H' v d
  | .none, _, h => by cases h; exact .non
  | .bool b, _, h => by cases h; exact .bl b
  | .int i, _, h => by cases h; exact .int i
  | .str x, _, h => by cases h; exact .str x
  | .list ds, _, h => by
    cases h with
    | lst hs ha => exact .lst (e _ _ hs) (dya_mono e ha)
  | .tuple ds, _, h => by
    cases h with
    | tup hs ha => exact .tup (ex_t e hs) (dya_mono e ha)
  | .dict [], _, h => by
    cases h with
    | dct hd => exact .dct (e _ _ hd)
  | .dict [(.str z, d)], _, h => by
    cases h with
    | dc1 hd hv => exact .dc1 (e _ _ hd) (dy_mono e hv)
theorem dya_mono {K : PySem.W.Frag} {H H' : Hp} (e : Ex H H') : ∀ {ds : List PyData} {vs : List V}, DyAll K H vs ds → DyAll K H' vs ds
  | [], _, h => by cases h; exact .nil
  | d :: ds, _, h => by
    cases h with
    | cons h1 h2 => exact .cons (dy_mono e h1) (dya_mono e h2)
end
mutual
theorem dy_dx {K : PySem.W.Frag} {H : Hp} : ∀ {d : PyData} {v : V}, Dy K H v d → Dx K H v d
  | .none, _, h => by cases h; exact .non
  | .bool b, _, h => by cases h; exact .bl b
  | .int i, _, h => by cases h; exact .int i
  | .str x, _, h => by cases h; exact .str x
  | .list ds, _, h => by
    cases h with
    | lst hs ha => exact .lst (sq_of hs) (dya_dx ha)
  | .tuple ds, _, h => by
    cases h with
    | tup hs ha => exact .tup hs (dya_dx ha)
  | .dict kvs, _, h => by
    cases h with
    | dct hd => exact .dct hd
    | dc1 hd _ => exact .dct hd
theorem dya_dx {K : PySem.W.Frag} {H : Hp} : ∀ {ds : List PyData} {vs : List V}, DyAll K H vs ds → DxAll K H vs ds
  | [], _, h => by cases h; exact .nil
  | d :: ds, _, h => by
    cases h with
    | cons h1 h2 => exact .cons (dy_dx h1) (dya_dx h2)
end
theorem pairs_one {P : Program} {w : World} {es : List DictEntry} {q : Key × Value} (h : Pairs (mixKind P w) es [q]) : ∃ en : DictEntry, es = [en] ∧ (mixKind P w).is q.1 en.key = true ∧ en.val = q.2 := by
  cases h with
  | cons h1 h2 t =>
    cases t
    exact ⟨_, rfl, h1, h2⟩
theorem key_str {P : Program} {w : World} {z : Str} {v : Value} (h : (mixKind P w).is (Sum.inr z) v = true) : ∃ t, v = .str z t := by
  rcases keyIs_shape (k := Sum.inr z) (v := v) h with ⟨i, t, e, _⟩ | ⟨x, t, e, r⟩
  · cases e
  · cases e
    exact ⟨t, r⟩
/-- the modules' dict lies apart from all that is made here -/
def Sy (K : PySem.W.Frag) (H : Hp) : Prop := (∃ o, K.lookup sysModules = some o) ∨ ∃ o u, H sysModules = some (.frz o u)
theorem Sy.ex {K : PySem.W.Frag} {H H' : Hp} (h : Sy K H) (e : Ex H H') : Sy K H' := by
  rcases h with h | ⟨o, u, h⟩
  · exact Or.inl h
  · exact Or.inr ⟨o, u, e _ _ h⟩
theorem Sy.kp {K : PySem.W.Frag} {H H' : Hp} {h l : Addr} (y : Sy K H) (A : Hand H h l) (k : Kp h l H H') : Sy K H' := by
  rcases y with y | ⟨o, u, y⟩
  · exact Or.inl y
  · obtain ⟨n, m⟩ := A.off y (fun _ z => by cases z)
    exact Or.inr ⟨o, u, k _ _ n m y⟩
section
variable {X : Cx} {pins : List (Addr × Obj)} {σ : L2.St} {H : Hp} {s : Shared}
theorem Sy.ne (I : Inv X pins σ H s) (y : Sy X.K H) {a : Addr} {o : HO} (h : H a = some o) (no : ∀ ob u, o ≠ .frz ob u) : a ≠ sysModules := by
  intro e
  subst e
  rcases y with ⟨ob, y⟩ | ⟨ob, u, y⟩
  · have := (I.bs _ _ (I.mod.kin _ _ y)).2
    rw [h] at this
    cases this
  · rw [h] at y
    cases y
    exact no _ _ rfl
mutual
theorem Dy.reads (I : Inv X pins σ H s) (y : Sy X.K H) : ∀ (d : PyData) (v : V) (u : Value), Dy X.K H v d → RelV v u → ∃ as, Reads s.heap u d as ∧ sysModules ∉ as
  | .none, _, _, h, r => by
    cases h
    cases r
    exact ⟨_, .none, by simp⟩
  | .bool b, _, _, h, r => by
    cases h
    cases r
    exact ⟨_, .bool b, by simp⟩
  | .int i, _, _, h, r => by
    cases h
    obtain ⟨t, rfl⟩ := r
    exact ⟨_, .int i t, by simp⟩
  | .str x, _, _, h, r => by
    cases h
    obtain ⟨t, rfl⟩ := r
    exact ⟨_, .str x t, by simp⟩
  | .list ds, _, _, h, r => by
    cases h with
    | lst hs ha =>
      cases r
      have ne := Sy.ne I y hs (fun _ _ z => by cases z)
      obtain ⟨its, rv, ⟨o, n, ho, hc, _, hd⟩, _⟩ := I.list (sq_of hs)
      obtain ⟨as, hr, hn⟩ := Dy.readsAll I y ds _ its ha rv
      exact ⟨_, .list ho hc hd hr, by simp only [List.mem_cons, not_or]; exact ⟨fun z => ne z.symm, hn⟩⟩
  | .tuple ds, _, _, h, r => by
    cases h with
    | tup hs ha =>
      cases r
      obtain ⟨its, rv, ⟨o, ho, hc, n, hd⟩, _⟩ := I.tuple hs
      obtain ⟨as, hr, hn⟩ := Dy.readsAll I y ds _ its ha rv
      exact ⟨_, .tuple ho hc hd hr, hn⟩
  | .dict [(.str z, d)], _, _, h, r => by
    cases h with
    | dc1 hd hv =>
      cases r
      obtain ⟨_, low, vs, rel, o, es, ep, ho, hex, hdt, hks, hp, _⟩ := dk_of I.hok hd
      have ne : ¬ sysModules = _ := fun z => (beq_eq_false_iff_ne.mp low) z.symm
      obtain ⟨q, rfl, hq1, hq2⟩ : ∃ q : Key × Value, vs = [q] ∧ (Sum.inr z : Key) = q.1 ∧ RelV _ q.2 := by
        cases rel with
        | cons r t =>
          cases t
          exact ⟨_, rfl, r.1, r.2⟩
      obtain ⟨en, he, hk, hval⟩ : ∃ en : DictEntry, es.toList = [en] ∧ (mixKind X.prog X.w).is q.1 en.key = true ∧ en.val = q.2 := pairs_one hp
      have hkey : ∃ t, en.key = .str z t := by
        rw [← hq1] at hk
        exact key_str hk
      obtain ⟨t, hkey⟩ := hkey
      obtain ⟨as, rd, hn⟩ := Dy.reads I y d _ _ hv (by rw [← hval] at hq2; exact hq2)
      have rk : Reads s.heap en.key (.str z) [] := by
        rw [hkey]
        exact .str z t
      refine ⟨_, .dict (kvs := [(.str z, d)]) ho hex.1 hdt (by rw [he]; exact .cons rk .nil) (by rw [he]; exact .cons rd .nil), ?_⟩
      simp only [List.append_nil, List.mem_append, List.mem_cons, List.not_mem_nil, or_false, not_or]
      exact ⟨ne, hn⟩
  | .dict [], _, _, h, r => by
    cases h with
    | dct hd =>
      cases r
      obtain ⟨_, low, vs, rel, o, es, ep, ho, hex, hdt, _, hp, _⟩ := dk_of I.hok hd
      cases rel
      have e0 : es.toList = [] := by
        cases h0 : es.toList with
        | nil => rfl
        | cons e r => rw [h0] at hp; cases hp
      have ne : ¬ sysModules = _ := fun z => (beq_eq_false_iff_ne.mp low) z.symm
      refine ⟨_, .dict (kvs := []) (as := []) (bs := []) ho hex.1 hdt (by rw [e0]; exact .nil) (by rw [e0]; exact .nil), ?_⟩
      simp only [List.append_nil, List.mem_singleton]
      exact ne
theorem Dy.readsAll (I : Inv X pins σ H s) (y : Sy X.K H) : ∀ (ds : List PyData) (vs : List V) (us : List Value), DyAll X.K H vs ds → Vals vs us → ∃ as, ReadsAll s.heap us ds as ∧ sysModules ∉ as
  | [], _, _, h, r => by
    cases h
    cases r
    exact ⟨_, .nil, by simp⟩
  | d :: ds, _, _, h, r => by
    cases h with
    | cons h1 h2 =>
      cases r with
      | cons r1 r2 =>
        obtain ⟨as, q1, n1⟩ := Dy.reads I y d _ _ h1 r1
        obtain ⟨bs, q2, n2⟩ := Dy.readsAll I y ds _ _ h2 r2
        exact ⟨_, .cons q1 q2, by rw [List.mem_append]; exact fun z => z.elim n1 n2⟩
end
end
/-- data whose text fits, dicts among them -/
def showsY (d : PyData) : Prop := d.showable = true ∧ d.depth ≤ 64 ∧ d.shown.length ≤ 10000000
def rReprY (K : PySem.W.Frag) : List V → Hp → VK → Prop := fun xs H Q => ∃ v d, xs = [v] ∧ Dy K H v d ∧ showsY d ∧ Sy K H ∧ Q (.str d.shown) H
def rStrY (K : PySem.W.Frag) : List V → Hp → VK → Prop := fun xs H Q => ∃ v d, xs = [v] ∧ Dy K H v d ∧ (∀ z, d ≠ .str z) ∧ showsY d ∧ Sy K H ∧ Q (.str d.shown) H
section
variable {X : Cx} {K : PySem.W.Frag}
theorem reprYK (h : X.K = K) (quiet : X.A.guards = some []) (room : X.A.units + 100 < cLine) : CallR X (.builtin "repr") (rReprY K) := by
  subst h
  intro pins s σ H xs us Q I rel told
  obtain ⟨v, d, rfl, data, ⟨s1, s3, s4⟩, y, q⟩ := told
  obtain ⟨u, rfl, ru⟩ := vals1 rel
  have s5 : d.shown.length ≤ sizeLine := Nat.le_trans s4 (by decide)
  have fin : ∀ (s' : Shared) (t : Tok), Inv X pins σ H s' → EP X pins σ Q (.str d.shown t) s' := fun s' t I' => ⟨.str d.shown, H, I', ⟨t, rfl⟩, q⟩
  have heap : ∀ a, u = .ref a → wpAny (model X.prog X.w) X.A (call (.builtin "repr") [u]) (EP X pins σ Q) X.xe s := by
    rintro a rfl
    obtain ⟨as, reads, no⟩ := Dy.reads I y d v _ data ru
    exact repr_of_reads' reads s1 (fun _ => no) quiet (by omega) (fun b o e => e) (fun h' u tk kept => fin _ _ (I.kept kept)) s5
  cases data with
  | non =>
    cases ru
    refine PySem.P.repr_of_none ?_
    have := fin { s with toks := s.toks + 1 } s.toks (I.tok _)
    simp only [PyData.shown] at this
    exact this
  | bl b =>
    cases ru
    refine PySem.P.repr_of_bool ?_
    have := fin { s with toks := s.toks + 1 } s.toks (I.tok _)
    simp only [PyData.shown] at this
    exact this
  | int i =>
    obtain ⟨t, rfl⟩ := ru
    refine PySem.P.repr_of_int (by simpa [PyData.showable] using s1) ?_
    have := fin { s with toks := s.toks + 1 } s.toks (I.tok _)
    simp only [PyData.shown] at this
    exact this
  | str x =>
    obtain ⟨t, rfl⟩ := ru
    simp only [PyData.shown] at s5
    refine PySem.P.repr_of_str ?_ s5
    have := fin { s with toks := s.toks + 1 } s.toks (I.tok _)
    simp only [PyData.shown] at this
    exact this
  | lst _ _ => cases ru; exact heap _ rfl
  | tup _ _ => cases ru; exact heap _ rfl
  | dct _ => cases ru; exact heap _ rfl
  | dc1 _ _ => cases ru; exact heap _ rfl
theorem strYK (h : X.K = K) (quiet : X.A.guards = some []) (room : X.A.units + 100 < cLine) : CallR X (.type "str") (rStrY K) := by
  subst h
  intro pins s σ H xs us Q I rel told
  obtain ⟨v, d, rfl, data, nostr, ⟨s1, s3, s4⟩, y, q⟩ := told
  obtain ⟨u, rfl, ru⟩ := vals1 rel
  have s5 : d.shown.length ≤ sizeLine := Nat.le_trans s4 (by decide)
  have fin : ∀ (s' : Shared) (t : Tok), Inv X pins σ H s' → EP X pins σ Q (.str d.shown t) s' := fun s' t I' => ⟨.str d.shown, H, I', ⟨t, rfl⟩, q⟩
  have heap : ∀ a, u = .ref a → wpAny (model X.prog X.w) X.A (call (.type "str") [u]) (EP X pins σ Q) X.xe s := by
    rintro a rfl
    obtain ⟨as, reads, no⟩ := Dy.reads I y d v _ data ru
    exact str_of_reads reads s1 (fun _ => no) quiet (by omega) (fun b o e => e) (fun h' u tk kept => fin _ _ (I.kept kept)) s5
  cases data with
  | non =>
    cases ru
    refine PySem.P.str_of_none ?_
    have := fin { s with toks := s.toks + 1 } s.toks (I.tok _)
    simp only [PyData.shown] at this
    exact this
  | bl b =>
    cases ru
    refine PySem.P.str_of_bool ?_
    have := fin { s with toks := s.toks + 1 } s.toks (I.tok _)
    simp only [PyData.shown] at this
    exact this
  | int i =>
    obtain ⟨t, rfl⟩ := ru
    refine PySem.P.str_of_int (by simpa [PyData.showable] using s1) ?_
    have := fin { s with toks := s.toks + 1 } s.toks (I.tok _)
    simp only [PyData.shown] at this
    exact this
  | str x => exact absurd rfl (nostr x)
  | lst _ _ => cases ru; exact heap _ rfl
  | tup _ _ => cases ru; exact heap _ rfl
  | dct _ => cases ru; exact heap _ rfl
  | dc1 _ _ => cases ru; exact heap _ rfl
end
end NL

/-! how much a datum weighs, which signs and numbers are in it; what is set aside of a heap -/
namespace NL
open PySem PySem.Spec PyProof.Rows L2 Evl
def asc (x : Str) : Prop := ∀ c ∈ x.cps.toList, c < 128
theorem asc_app {a b : Str} (ha : asc a) (hb : asc b) : asc (a ++ b) := fun c hc => by
  rcases mem_cps_append.mp hc with h | h
  · exact ha c h
  · exact hb c h
theorem asc_join {sep : Str} (hs : asc sep) {ts : List Str} (ht : ∀ t ∈ ts, asc t) : asc (Str.join sep ts) := fun c hc => by
  rcases (mem_join sep c ts).mp hc with ⟨t, h1, h2⟩ | ⟨_, h⟩
  · exact ht t h1 c h2
  · exact hs c h
theorem asc_lit {s : String} (h : s.toList.all (fun c => decide (c.toNat < 128)) = true) : asc (Str.ofString s) := fun c hc => by
  rw [signs_ofString] at hc
  obtain ⟨ch, h1, rfl⟩ := List.mem_map.mp hc
  exact of_decide_eq_true (List.all_eq_true.mp h ch h1)
theorem asc_int (i : Int) : asc (Str.ofString (toString i)) := fun c hc => by
  rw [signs_ofString] at hc
  obtain ⟨ch, h1, rfl⟩ := List.mem_map.mp hc
  rcases int_sign i ch h1 with h | h
  · have := digit_range h
    omega
  · subst h
    decide
theorem asc_from : ∀ {ts : List Str} {k : Nat} {acc : Str}, asc acc → (∀ t ∈ ts, asc t) → asc (textFrom k acc ts)
  | [], _, _, h, _ => h
  | t :: ts, k, acc, h, ht => by
    unfold textFrom
    refine asc_from (asc_app (asc_app h ?_) (ht t (List.mem_cons_self ..))) fun u hu => ht u (List.mem_cons_of_mem _ hu)
    split
    · exact asc_lit (by decide)
    · exact asc_lit (by decide)
theorem char_asc : ∀ q, q = 34 ∨ q = 39 → ∀ c, c < 128 → ∀ x ∈ Builtin.Str.reprChar q c, x < 128 := by
  have h : ((List.range 128).all fun c => ((Builtin.Str.reprChar 34 c).all fun x => decide (x < 128)) && ((Builtin.Str.reprChar 39 c).all fun x => decide (x < 128))) = true := by decide +kernel
  intro q hq c hc x hx
  have h1 := List.all_eq_true.mp h c (List.mem_range.mpr hc)
  rw [Bool.and_eq_true] at h1
  rcases hq with rfl | rfl
  · exact of_decide_eq_true (List.all_eq_true.mp h1.1 x hx)
  · exact of_decide_eq_true (List.all_eq_true.mp h1.2 x hx)
theorem up_asc : ∀ c, c < 128 → ∀ x ∈ Unicode.upperOf c, x < 128 := by
  have h : ((List.range 128).all fun c => (Unicode.upperOf c).all fun x => decide (x < 128)) = true := by decide +kernel
  intro c hc x hx
  exact of_decide_eq_true (List.all_eq_true.mp (List.all_eq_true.mp h c (List.mem_range.mpr hc)) x hx)
theorem asc_repr {x : Str} (h : asc x) : asc (reprText x) := by
  have hq : reprQuote x = 34 ∨ reprQuote x = 39 := by
    unfold reprQuote
    split
    · exact Or.inl rfl
    · exact Or.inr rfl
  have q1 : reprQuote x < 128 := by rcases hq with h | h <;> omega
  have all : ∀ (l : List Nat) (acc : Array Nat), (∀ c ∈ acc.toList, c < 128) → (∀ c ∈ l, c < 128) → ∀ c ∈ (l.foldl (fun out c => out ++ (Builtin.Str.reprChar (reprQuote x) c).toArray) acc).toList, c < 128 := by
    intro l
    induction l with
    | nil => intro acc ha _; exact ha
    | cons a l ih =>
      intro acc ha hl
      rw [List.foldl_cons]
      refine ih _ (fun c hc => ?_) fun c hc => hl c (List.mem_cons_of_mem _ hc)
      rw [Array.toList_append] at hc
      rcases List.mem_append.mp hc with hc | hc
      · exact ha c hc
      · exact char_asc _ hq a (hl a (List.mem_cons_self ..)) c (by simpa using hc)
  intro c hc
  unfold reprText at hc
  simp only [Array.toList_push, List.mem_append, List.mem_singleton] at hc
  rcases hc with hc | hc
  · rw [← Array.foldl_toList] at hc
    exact all _ #[reprQuote x] (fun c hc => by simp at hc; omega) h c hc
  · omega
theorem asc_upper {x : Str} (h : asc x) : asc (Txt.upper x) := by
  intro c hc
  unfold Txt.upper placed at hc
  simp only [Array.mem_toList_iff, Array.mem_flatten, Array.mem_mapIdx] at hc
  obtain ⟨a, ⟨i, hi, rfl⟩, hc⟩ := hc
  exact up_asc x.cps[i] (h _ (by simp)) c (by simpa using hc)
theorem asc_cut {x : Str} (h : asc x) {f : List Nat → List Nat} (hf : ∀ l, ∀ c ∈ f l, c ∈ l) : asc ⟨(f x.cps.toList).toArray⟩ := fun c hc => h c (hf _ c (by simpa using hc))
mutual
def wt : PyData → Nat
  | .str s => 10 * s.length + 10
  | .int _ => 60
  | .list ds => wts ds + 10
  | .tuple ds => wts ds + 10
  | .dict kvs => wtk kvs + 10
  | _ => 10
def wts : List PyData → Nat
  | [] => 0
  | d :: ds => wt d + wts ds
def wtk : List (PyData × PyData) → Nat
  | [] => 0
  | (k, v) :: r => wt k + wt v + wtk r
end
mutual
def okD (B : Nat) : PyData → Prop
  | .str s => asc s
  | .int i => i.natAbs ≤ B
  | .list ds => okDs B ds
  | .tuple ds => okDs B ds
  | .dict kvs => okK B kvs
  | _ => True
def okDs (B : Nat) : List PyData → Prop
  | [] => True
  | d :: ds => okD B d ∧ okDs B ds
def okK (B : Nat) : List (PyData × PyData) → Prop
  | [] => True
  | (k, v) :: r => okD B k ∧ okD B v ∧ okK B r
end
theorem list_len (ts : List Str) : (listText ts).length ≤ (ts.map fun t => t.length + 2).sum + 3 := by
  have all : ∀ (ts : List Str) (k : Nat) (acc : Str), (textFrom k acc ts).length ≤ acc.length + (ts.map fun t => t.length + 2).sum := by
    intro ts
    induction ts with
    | nil => intro k acc; simp [textFrom]
    | cons t ts ih =>
      intro k acc
      have h := ih (k + 1) (acc ++ (if k > 0 then ", " else "" : String) ++ t)
      have e : (Str.ofString (if k > 0 then ", " else "" : String)).length ≤ 2 := by
        split
        · decide +kernel
        · decide +kernel
      rw [Str.length_append, Str.length_append] at h
      simp only [textFrom, List.map_cons, List.sum_cons]
      omega
  unfold listText
  rw [Str.length_append]
  have h := all ts 0 "["
  have e1 : ("[" : Str).length = 1 := by decide +kernel
  have e2 : (Str.ofString "]").length = 1 := by decide +kernel
  omega
mutual
/-- what a datum's text has -/
theorem text_facts {B : Nat} (hB : B < 2 ^ 44) : ∀ d : PyData, okD B d → d.showable = true ∧ d.shown.length + 2 ≤ wt d ∧ asc d.shown
  | .none, _ => ⟨by simp [PyData.showable], by simp only [PyData.shown, wt]; decide +kernel, by simp only [PyData.shown]; exact asc_lit (by decide)⟩
  | .bool b, _ => by
    refine ⟨by simp [PyData.showable], ?_, ?_⟩
    · simp only [PyData.shown, wt]
      cases b
      · decide +kernel
      · decide +kernel
    · simp only [PyData.shown]
      cases b
      · exact asc_lit (by decide)
      · exact asc_lit (by decide)
  | .int i, h => by
    simp only [okD] at h
    have bl : i.natAbs.log2 < 44 := by
      by_cases h0 : i.natAbs = 0
      · rw [h0]; decide
      · exact (Nat.log2_lt h0).mpr (by omega)
    refine ⟨?_, ?_, ?_⟩
    · simp only [PyData.showable, decide_eq_true_eq]
      omega
    · simp only [PyData.shown, wt]
      have := int_text_length_le (a := i) (k := 44) (by decide) bl
      rw [PySem.ofString_length]
      omega
    · simp only [PyData.shown]
      exact asc_int i
  | .str s, h => by
    simp only [okD] at h
    refine ⟨by simp [PyData.showable], ?_, ?_⟩
    · simp only [PyData.shown, wt]
      have := StrLaws.reprText_len s (fun c hc => Nat.lt_trans (h c hc) (by decide))
      omega
    · simp only [PyData.shown]
      exact asc_repr h
  | .list ds, h => by
    simp only [okD] at h
    obtain ⟨i1, i2, i3⟩ := texts_facts hB ds h
    refine ⟨by simp only [PyData.showable]; exact i1, ?_, ?_⟩
    · simp only [PyData.shown, wt, shownAll_map]
      have := list_len (ds.map PyData.shown)
      omega
    · simp only [PyData.shown, shownAll_map]
      exact asc_app (asc_from (asc_lit (by decide)) i3) (asc_lit (by decide))
  | .tuple ds, h => by
    simp only [okD] at h
    obtain ⟨i1, i2, i3⟩ := texts_facts hB ds h
    refine ⟨by simp only [PyData.showable]; exact i1, ?_, ?_⟩
    · simp only [PyData.shown, wt, shownAll_map]
      have := tuple_len (ds.map PyData.shown)
      omega
    · simp only [PyData.shown, shownAll_map]
      refine asc_app (asc_app (asc_lit (by decide)) (asc_join (asc_lit (by decide)) i3)) ?_
      split
      · exact asc_lit (by decide)
      · exact asc_lit (by decide)
  | .dict kvs, h => by
    simp only [okD] at h
    obtain ⟨i1, i2, i3⟩ := textk_facts hB kvs h
    refine ⟨by simp only [PyData.showable]; exact i1, ?_, ?_⟩
    · simp only [PyData.shown, wt, dictText]
      rw [Str.length_append, Str.length_append]
      have e1 : ("{" : Str).length = 1 := by decide +kernel
      have e2 : (Str.ofString "}").length = 1 := by decide +kernel
      have e3 : (", " : Str).length = 2 := by decide +kernel
      have hj := join_len ", " (PyData.shownKv kvs)
      rw [e3] at hj
      omega
    · simp only [PyData.shown, dictText]
      exact asc_app (asc_app (asc_lit (by decide)) (asc_join (asc_lit (by decide)) i3)) (asc_lit (by decide))
theorem texts_facts {B : Nat} (hB : B < 2 ^ 44) : ∀ ds : List PyData, okDs B ds → PyData.showableAll ds = true ∧ ((ds.map PyData.shown).map fun t => t.length + 2).sum ≤ wts ds ∧ ∀ t ∈ ds.map PyData.shown, asc t
  | [], _ => by simp [PyData.showableAll, wts]
  | d :: ds, h => by
    simp only [okDs] at h
    obtain ⟨i1, i2, i3⟩ := text_facts hB d h.1
    obtain ⟨j1, j2, j3⟩ := texts_facts hB ds h.2
    refine ⟨by simp only [PyData.showableAll, i1, j1]; rfl, ?_, ?_⟩
    · simp only [List.map_cons, List.sum_cons, wts]
      omega
    · intro t ht
      rcases List.mem_cons.mp ht with rfl | ht
      · exact i3
      · exact j3 t ht
theorem textk_facts {B : Nat} (hB : B < 2 ^ 44) : ∀ kvs : List (PyData × PyData), okK B kvs → PyData.showableKv kvs = true ∧ ((PyData.shownKv kvs).map fun t => t.length + 2).sum ≤ wtk kvs ∧ ∀ t ∈ PyData.shownKv kvs, asc t
  | [], _ => by simp [PyData.showableKv, PyData.shownKv, wtk]
  | (a, b) :: r, h => by
    simp only [okK] at h
    obtain ⟨i1, i2, i3⟩ := text_facts hB a h.1
    obtain ⟨j1, j2, j3⟩ := text_facts hB b h.2.1
    obtain ⟨k1, k2, k3⟩ := textk_facts hB r h.2.2
    have e2 : (Str.ofString ": ").length = 2 := by decide +kernel
    refine ⟨by simp only [PyData.showableKv, i1, j1, k1]; rfl, ?_, ?_⟩
    · simp only [PyData.shownKv, List.map_cons, List.sum_cons, wtk, Str.length_append]
      omega
    · intro t ht
      simp only [PyData.shownKv] at ht
      rcases List.mem_cons.mp ht with rfl | ht
      · exact asc_app (asc_app i3 (asc_lit (by decide))) j3
      · exact k3 t ht
end
theorem shows_of {B W D : Nat} {d : PyData} (hB : B < 2 ^ 44) (ok : okD B d) (hw : wt d ≤ W) (hd : d.depth ≤ D) (hW : W ≤ 10000000) (hD : D ≤ 64) : showsY d := by
  obtain ⟨i1, i2, _⟩ := text_facts hB d ok
  exact ⟨i1, by omega, by omega⟩
mutual
theorem ok_up {B C : Nat} (h : B ≤ C) : ∀ d : PyData, okD B d → okD C d
  | .none, _ => by simp [okD]
  | .bool b, _ => by simp [okD]
  | .int i, k => by simp only [okD] at k ⊢; omega
  | .str s, k => by simp only [okD] at k ⊢; exact k
  | .list ds, k => by simp only [okD] at k ⊢; exact oks_up h ds k
  | .tuple ds, k => by simp only [okD] at k ⊢; exact oks_up h ds k
  | .dict kvs, k => by simp only [okD] at k ⊢; exact okk_up h kvs k
theorem oks_up {B C : Nat} (h : B ≤ C) : ∀ ds : List PyData, okDs B ds → okDs C ds
  | [], _ => by simp [okDs]
  | d :: ds, k => by simp only [okDs] at k ⊢; exact ⟨ok_up h d k.1, oks_up h ds k.2⟩
theorem okk_up {B C : Nat} (h : B ≤ C) : ∀ kvs : List (PyData × PyData), okK B kvs → okK C kvs
  | [], _ => by simp [okK]
  | (a, b) :: r, k => by simp only [okK] at k ⊢; exact ⟨ok_up h a k.1, ok_up h b k.2.1, okk_up h r k.2.2⟩
end
mutual
theorem nodes_wt : ∀ d : PyData, 10 * nodes d ≤ wt d
  | .none => by simp [nodes, wt]
  | .bool b => by simp [nodes, wt]
  | .int i => by simp [nodes, wt]
  | .str s => by simp only [nodes, wt]; omega
  | .list ds => by have := nodess_wt ds; simp only [nodes, wt]; omega
  | .tuple ds => by have := nodess_wt ds; simp only [nodes, wt]; omega
  | .dict kvs => by simp only [nodes, wt]; omega
theorem nodess_wt : ∀ ds : List PyData, 10 * nodess ds ≤ wts ds
  | [] => by simp [nodess, wts]
  | d :: ds => by have := nodes_wt d; have := nodess_wt ds; simp only [nodess, wts]; omega
end
mutual
theorem shorts_wt {W : Nat} (hW : W ≤ 10000000) : ∀ d : PyData, wt d ≤ W → shorts d
  | .none, _ => by simp [shorts]
  | .bool b, _ => by simp [shorts]
  | .int i, _ => by simp [shorts]
  | .str s, h => by simp only [wt] at h; simp only [shorts]; omega
  | .list ds, h => by simp only [wt] at h; simp only [shorts]; exact shortss_wt hW ds (by omega)
  | .tuple ds, h => by simp only [wt] at h; simp only [shorts]; exact shortss_wt hW ds (by omega)
  | .dict kvs, _ => by simp [shorts]
theorem shortss_wt {W : Nat} (hW : W ≤ 10000000) : ∀ ds : List PyData, wts ds ≤ W → shortss ds
  | [], _ => by simp [shortss]
  | d :: ds, h => by simp only [wts] at h; simp only [shortss]; exact ⟨shorts_wt hW d (by omega), shortss_wt hW ds (by omega)⟩
end
theorem len_wts : ∀ ds : List PyData, 10 * ds.length ≤ wts ds
  | [] => by simp
  | d :: ds => by
    have := len_wts ds
    have := nodes_wt d
    have : 1 ≤ nodes d := by cases d <;> simp [nodes]
    simp only [List.length_cons, wts]
    omega
end NL

/-! some datum: a value of which it is known how much it weighs, how deep it is, what signs and numbers it has; terms that make such ones while a hand draws -/
namespace NL
open PySem PySem.Spec PyProof.Rows L2 Evl
def aside (H : Hp) (S : List Addr) : Hp := fun a => if a ∈ S then none else H a
theorem aside_at {H : Hp} {S : List Addr} {a : Addr} (h : a ∉ S) : aside H S a = H a := if_neg h
theorem aside_in {H : Hp} {S : List Addr} {a : Addr} (h : a ∈ S) : aside H S a = none := if_pos h
theorem aside_sub (H : Hp) (S : List Addr) : Ex (aside H S) H := fun a o e => by
  by_cases h : a ∈ S
  · rw [aside_in h] at e
    cases e
  · rw [aside_at h] at e
    exact e
theorem aside_ex {H H' : Hp} {S : List Addr} (k : ∀ a o, a ∉ S → H a = some o → H' a = some o) : Ex (aside H S) (aside H' S) := fun a o e => by
  by_cases h : a ∈ S
  · rw [aside_in h] at e
    cases e
  · rw [aside_at h] at e ⊢
    exact k a o h e
theorem aside_kp {H H' : Hp} {S : List Addr} {h l : Addr} (h1 : h ∈ S) (h2 : l ∈ S) (k : Kp h l H H') : Ex (aside H S) (aside H' S) := aside_ex fun a o hn e => k a o (fun z => hn (z ▸ h1)) (fun z => hn (z ▸ h2)) e
theorem aside_e {H H' : Hp} {S : List Addr} (k : Ex H H') : Ex (aside H S) (aside H' S) := aside_ex fun a o _ e => k a o e
theorem aside_less {H : Hp} {S : List Addr} {p : Addr} : Ex (aside H (p :: S)) (aside H S) := fun a o e => by
  by_cases h : a ∈ p :: S
  · rw [aside_in h] at e
    cases e
  · rw [aside_at h] at e
    rw [aside_at (fun z => h (List.mem_cons_of_mem _ z))]
    exact e
theorem aside_more {H H' : Hp} {S : List Addr} {p : Addr} (n : H p = none) (k : Ex H H') : Ex (aside H S) (aside H' (p :: S)) := fun a o e => by
  by_cases h : a ∈ S
  · rw [aside_in h] at e
    cases e
  · rw [aside_at h] at e
    rw [aside_at (fun z => by
      rcases List.mem_cons.mp z with z | z
      · subst z
        rw [n] at e
        cases e
      · exact h z)]
    exact k _ _ e
/-! ### a datum, and several -/
def G (K : PySem.W.Frag) (H : Hp) (v : V) (W N D B : Nat) : Prop := ∃ d, Dy K H v d ∧ wt d ≤ W ∧ nodes d ≤ N ∧ d.depth ≤ D ∧ okD B d
def GL (K : PySem.W.Frag) (H : Hp) (xs : List V) (W N D B : Nat) : Prop := ∃ ds, DyAll K H xs ds ∧ wts ds ≤ W ∧ nodess ds ≤ N ∧ PyData.depthAll ds ≤ D ∧ okDs B ds
section
variable {K : PySem.W.Frag} {H H' : Hp} {v : V} {xs ys : List V} {W N D B W' N' D' B' : Nat}
theorem G.mono (g : G K H v W N D B) (e : Ex H H') : G K H' v W N D B := by
  obtain ⟨d, h, r⟩ := g
  exact ⟨d, dy_mono e h, r⟩
theorem G.up (g : G K H v W N D B) (hW : W ≤ W') (hN : N ≤ N') (hD : D ≤ D') (hB : B ≤ B') : G K H v W' N' D' B' := by
  obtain ⟨d, h, h1, hn, h2, h3⟩ := g
  exact ⟨d, h, by omega, by omega, by omega, ok_up hB d h3⟩
theorem GL.mono (g : GL K H xs W N D B) (e : Ex H H') : GL K H' xs W N D B := by
  obtain ⟨d, h, r⟩ := g
  exact ⟨d, dya_mono e h, r⟩
theorem GL.up (g : GL K H xs W N D B) (hW : W ≤ W') (hN : N ≤ N') (hD : D ≤ D') (hB : B ≤ B') : GL K H xs W' N' D' B' := by
  obtain ⟨d, h, h1, hn, h2, h3⟩ := g
  exact ⟨d, h, by omega, by omega, by omega, oks_up hB d h3⟩
theorem GL.nil : GL K H [] W N D B := ⟨[], .nil, by simp [wts], by simp [nodess], by simp [PyData.depthAll], by simp [okDs]⟩
theorem GL.cons (a : G K H v W N D B) (b : GL K H xs W' N' D B) : GL K H (v :: xs) (W + W') (N + N') D B := by
  obtain ⟨d, h, h1, hn, h2, h3⟩ := a
  obtain ⟨ds, k, k1, kn, k2, k3⟩ := b
  exact ⟨d :: ds, .cons h k, by simp only [wts]; omega, by simp only [nodess]; omega, by simp only [PyData.depthAll]; omega, by simp only [okDs]; exact ⟨h3, k3⟩⟩
theorem dya_app : ∀ {xs ys : List V} {ds es : List PyData}, DyAll K H xs ds → DyAll K H ys es → DyAll K H (xs ++ ys) (ds ++ es)
  | _, _, _, _, .nil, h => h
  | _, _, _, _, .cons a b, h => .cons a (dya_app b h)
theorem wts_app : ∀ (ds es : List PyData), wts (ds ++ es) = wts ds + wts es
  | [], es => by simp [wts]
  | d :: ds, es => by simp only [List.cons_append, wts, wts_app ds es]; omega
theorem nds_app : ∀ (ds es : List PyData), nodess (ds ++ es) = nodess ds + nodess es
  | [], es => by simp [nodess]
  | d :: ds, es => by simp only [List.cons_append, nodess, nds_app ds es]; omega
theorem dep_app : ∀ (ds es : List PyData), PyData.depthAll (ds ++ es) = max (PyData.depthAll ds) (PyData.depthAll es)
  | [], es => by simp [PyData.depthAll]
  | d :: ds, es => by simp only [List.cons_append, PyData.depthAll, dep_app ds es]; omega
theorem okDs_app : ∀ (ds es : List PyData), okDs B (ds ++ es) ↔ okDs B ds ∧ okDs B es
  | [], es => by simp [okDs]
  | d :: ds, es => by simp only [List.cons_append, okDs, okDs_app ds es, and_assoc]
theorem GL.app (a : GL K H xs W N D B) (b : GL K H ys W' N' D B) : GL K H (xs ++ ys) (W + W') (N + N') D B := by
  obtain ⟨ds, h, h1, hn, h2, h3⟩ := a
  obtain ⟨es, k, k1, kn, k2, k3⟩ := b
  exact ⟨ds ++ es, dya_app h k, by rw [wts_app]; omega, by rw [nds_app]; omega, by rw [dep_app]; omega, (okDs_app ds es).mpr ⟨h3, k3⟩⟩
theorem dya_split : ∀ {xs ys : List V} {ds : List PyData}, DyAll K H (xs ++ ys) ds → ∃ a b, ds = a ++ b ∧ DyAll K H xs a ∧ DyAll K H ys b
  | [], ys, ds, h => ⟨[], ds, rfl, .nil, h⟩
  | x :: xs, ys, _, .cons h t => by
    obtain ⟨a, b, rfl, h1, h2⟩ := dya_split t
    exact ⟨_ :: a, b, rfl, .cons h h1, h2⟩
theorem GL.left (g : GL K H (xs ++ ys) W N D B) : GL K H xs W N D B := by
  obtain ⟨ds, h, h1, hn, h2, h3⟩ := g
  obtain ⟨a, b, rfl, k1, k2⟩ := dya_split h
  rw [wts_app] at h1
  rw [nds_app] at hn
  rw [dep_app] at h2
  exact ⟨a, k1, by omega, by omega, by omega, ((okDs_app a b).mp h3).1⟩
theorem GL.right (g : GL K H (xs ++ ys) W N D B) : GL K H ys W N D B := by
  obtain ⟨ds, h, h1, hn, h2, h3⟩ := g
  obtain ⟨a, b, rfl, k1, k2⟩ := dya_split h
  rw [wts_app] at h1
  rw [nds_app] at hn
  rw [dep_app] at h2
  exact ⟨b, k2, by omega, by omega, by omega, ((okDs_app a b).mp h3).2⟩
theorem GL.take (g : GL K H xs W N D B) (n : Nat) : GL K H (xs.take n) W N D B := GL.left (ys := xs.drop n) (by rw [List.take_append_drop]; exact g)
theorem GL.drop (g : GL K H xs W N D B) (n : Nat) : GL K H (xs.drop n) W N D B := GL.right (xs := xs.take n) (by rw [List.take_append_drop]; exact g)
theorem GL.cut (g : GL K H xs W N D B) (lo hi : Option Int) : GL K H (cutV xs lo hi) W N D B := by
  unfold cutV
  exact (g.drop _).take _
theorem GL.rev (g : GL K H xs W N D B) : GL K H xs.reverse W N D B := by
  obtain ⟨ds, h, h1, hn, h2, h3⟩ := g
  suffices h : ∀ {xs : List V} {ds : List PyData}, DyAll K H xs ds → ∃ es, DyAll K H xs.reverse es ∧ wts es = wts ds ∧ nodess es = nodess ds ∧ PyData.depthAll es = PyData.depthAll ds ∧ (okDs B ds → okDs B es) by
    obtain ⟨es, k, k1, kn, k2, k3⟩ := h ‹_›
    exact ⟨es, k, by omega, by omega, by omega, k3 h3⟩
  intro xs
  induction xs with
  | nil => intro ds h; cases h; exact ⟨[], .nil, rfl, rfl, rfl, id⟩
  | cons x xs ih =>
    intro ds h
    cases h with
    | cons a b =>
      rename_i d ds
      obtain ⟨es, k, k1, kn, k2, k3⟩ := ih b
      refine ⟨es ++ [d], by rw [List.reverse_cons]; exact dya_app k (.cons a .nil), ?_, ?_, ?_, fun o => ?_⟩
      · rw [wts_app, k1]
        simp only [wts]
        omega
      · rw [nds_app, kn]
        simp only [nodess]
        omega
      · rw [dep_app, k2]
        simp only [PyData.depthAll]
        omega
      · simp only [okDs] at o
        exact (okDs_app es [d]).mpr ⟨k3 o.2, by simp only [okDs]; exact ⟨o.1, trivial⟩⟩
theorem GL.get (g : GL K H xs W N D B) (h : v ∈ xs) : G K H v W N D B := by
  obtain ⟨a, b, rfl⟩ := List.append_of_mem h
  obtain ⟨ds, h, h1, hn, h2, h3⟩ := g.right (xs := a)
  cases h with
  | cons d r =>
    simp only [wts] at h1
    simp only [nodess] at hn
    simp only [PyData.depthAll] at h2
    simp only [okDs] at h3
    exact ⟨_, d, by omega, by omega, by omega, h3.1⟩
theorem GL.len (g : GL K H xs W N D B) : 10 * xs.length ≤ W := by
  obtain ⟨ds, h, h1, _⟩ := g
  have := len_wts ds
  have e : xs.length = ds.length := dxa_len (dya_dx h)
  omega
theorem GL.lenN (g : GL K H xs W N D B) : xs.length ≤ N := by
  obtain ⟨ds, h, _, hn, _⟩ := g
  have e : xs.length = ds.length := dxa_len (dya_dx h)
  have : ∀ ds : List PyData, ds.length ≤ nodess ds := by
    intro ds
    induction ds with
    | nil => simp
    | cons d ds ih =>
      have : 1 ≤ nodes d := by cases d <;> simp [nodes]
      simp only [List.length_cons, nodess]
      omega
  have := this ds
  omega
theorem G.tup {a : Addr} (hs : SqT K H a xs) (g : GL K H xs W N D B) : G K H (.ref a) (W + 10) (N + 1) (D + 1) B := by
  obtain ⟨ds, h, h1, hn, h2, h3⟩ := g
  exact ⟨.tuple ds, .tup hs h, by simp only [wt]; omega, by simp only [nodes]; omega, by simp only [PyData.depth]; omega, by simp only [okD]; exact h3⟩
theorem G.lst {a : Addr} (hs : H a = some (.lst xs)) (g : GL K H xs W N D B) : G K H (.ref a) (W + 10) (N + 1) (D + 1) B := by
  obtain ⟨ds, h, h1, hn, h2, h3⟩ := g
  exact ⟨.list ds, .lst hs h, by simp only [wt]; omega, by simp only [nodes]; omega, by simp only [PyData.depth]; omega, by simp only [okD]; exact h3⟩
theorem G.non : G K H .non 10 1 0 B := ⟨_, .non, by simp [wt], by simp [nodes], by simp [PyData.depth], by simp [okD]⟩
theorem G.bl (b : Bool) : G K H (.bl b) 10 1 0 B := ⟨_, .bl b, by simp [wt], by simp [nodes], by simp [PyData.depth], by simp [okD]⟩
theorem G.int {i : Int} (h : i.natAbs ≤ B) : G K H (.int i) 60 1 0 B := ⟨_, .int i, by simp [wt], by simp [nodes], by simp [PyData.depth], by simp only [okD]; exact h⟩
theorem G.str {z : Str} {n : Nat} (hn : 10 * z.length + 10 ≤ n) (h : asc z) : G K H (.str z) n 1 0 B := ⟨_, .str z, by simp only [wt]; exact hn, by simp [nodes], by simp [PyData.depth], by simp only [okD]; exact h⟩
theorem G.dct {a : Addr} (h : H a = some (.dK [])) : G K H (.ref a) 10 1 1 B := ⟨_, .dct h, by simp [wt, wtk], by simp [nodes], by simp [PyData.depth, PyData.depthKv], by simp [okD, okK]⟩
theorem G.dc1 {a : Addr} {z : Str} (h : H a = some (.dK [(Sum.inr z, v)])) (az : asc z) (g : G K H v W N D B) : G K H (.ref a) (10 * z.length + 10 + W + 10) (N + 1) (D + 1) B := by
  obtain ⟨d, hd, h1, hn, h2, h3⟩ := g
  refine ⟨_, .dc1 h hd, by simp only [wt, wtk]; omega, by simp only [nodes]; omega, by simp only [PyData.depth, PyData.depthKv]; omega, by simp only [okD, okK]; exact ⟨az, h3, trivial⟩⟩
end
/-! ### terms that give some datum while a hand draws -/
theorem sqt_kp {K : PySem.W.Frag} {H H' : Hp} {h l p : Addr} {xs : List V} (k : Kp h l H H') (s : SqT K (aside H [h, l]) p xs) : SqT K (aside H' [h, l]) p xs := ex_t (aside_kp (by simp) (by simp) k) s
section
variable {K : PySem.W.Frag} {h l : Addr}
def EG (K : PySem.W.Frag) (h l : Addr) (W N D B : Nat) (te : TE) (σ : L2.St) (H : Hp) : Prop := ∀ H1, Kp h l H H1 → Hand H1 h l → ∀ Q : VK, (∀ v H2, Kp h l H1 H2 → Hand H2 h l → G K (aside H2 [h, l]) v W N D B → Q v H2) → te σ H1 Q
def AG (K : PySem.W.Frag) (h l : Addr) (n W N D B : Nat) (ta : TA) (σ : L2.St) (H : Hp) : Prop := ∀ H1, Kp h l H H1 → Hand H1 h l → ∀ Q : List V → Hp → Prop, (∀ vs H2, Kp h l H1 H2 → Hand H2 h l → vs.length = n → (∀ v ∈ vs, G K (aside H2 [h, l]) v W N D B) → Q vs H2) → ta σ H1 Q
def GT (K : PySem.W.Frag) (h l : Addr) (W N D B : Nat) (te : TE) (σ : L2.St) (H : Hp) : Prop := ∀ H1, Kp h l H H1 → Hand H1 h l → ∀ Q : VK, (∀ p xs H2, Kp h l H1 H2 → Hand H2 h l → SqT K (aside H2 [h, l]) p xs → GL K (aside H2 [h, l]) xs W N D B → Q (.ref p) H2) → te σ H1 Q
/-- to a new list of such ones -/
def NG (K : PySem.W.Frag) (h l : Addr) (n W N D B : Nat) (te : TE) (σ : L2.St) (H : Hp) : Prop := ∀ H1, Kp h l H H1 → Hand H1 h l → ∀ Q : VK, (∀ p vs H2, Kp h l H1 H2 → Hand H2 h l → p ≠ h → p ≠ l → H2 p = some (.lst vs) → vs.length = n → (∀ v ∈ vs, G K (aside H2 [h, l]) v W N D B) → Q (.ref p) H2) → te σ H1 Q
/-- to this value, whatever is drawn -/
def EK (h l : Addr) (v : V) (te : TE) (σ : L2.St) (H : Hp) : Prop := ∀ H1, Kp h l H H1 → Hand H1 h l → ∀ Q : VK, (∀ H2, Kp h l H1 H2 → Hand H2 h l → Q v H2) → te σ H1 Q
variable {σ : L2.St} {H : Hp} {te tb : TE} {ta : TA} {W N D B W' N' D' B' n m : Nat}
theorem g_kp {H1 H2 : Hp} {v : V} (g : G K (aside H1 [h, l]) v W N D B) (k : Kp h l H1 H2) : G K (aside H2 [h, l]) v W N D B := g.mono (aside_kp (by simp) (by simp) k)
theorem gl_kp {H1 H2 : Hp} {xs : List V} (g : GL K (aside H1 [h, l]) xs W N D B) (k : Kp h l H1 H2) : GL K (aside H2 [h, l]) xs W N D B := g.mono (aside_kp (by simp) (by simp) k)
theorem off_hl {p : Addr} (h1 : p ≠ h) (h2 : p ≠ l) : p ∉ [h, l] := by
  simp only [List.mem_cons, List.not_mem_nil, or_false, not_or]
  exact ⟨h1, h2⟩
theorem EG.up (g : EG K h l W N D B te σ H) (hW : W ≤ W') (hN : N ≤ N') (hD : D ≤ D') (hB : B ≤ B') : EG K h l W' N' D' B' te σ H := fun H1 k A Q q => g H1 k A Q fun v H2 k2 A2 g2 => q v H2 k2 A2 (g2.up hW hN hD hB)
theorem GT.up (g : GT K h l W N D B te σ H) (hW : W ≤ W') (hN : N ≤ N') (hD : D ≤ D') (hB : B ≤ B') : GT K h l W' N' D' B' te σ H := fun H1 k A Q q => g H1 k A Q fun p xs H2 k2 A2 s g2 => q p xs H2 k2 A2 s (g2.up hW hN hD hB)
theorem ek_c {v : V} : EK h l v (tC v) σ H := fun H1 _ A Q q => q H1 (Kp.refl h l H1) A
theorem ek_var {i : Nat} {v : V} (e : σ[i]? = some (some v)) : EK h l v (tVar i) σ H := fun H1 _ A Q q => ⟨v, e, q H1 (Kp.refl h l H1) A⟩
theorem ek_I0 {g : Int → Int → V} {i j : Int} (ha : EK h l (.int i) te σ H) (hb : EK h l (.int j) tb σ H) : EK h l (g i j) (tOp (rI0 g) te tb) σ H := fun H1 k A Q q =>
  ha H1 k A _ fun H2 k2 A2 => hb H2 (k.trans k2) A2 _ fun H3 k3 A3 => ⟨i, j, rfl, rfl, q H3 (k2.trans k3) A3⟩
theorem eg_ek {v : V} (e : EK h l v te σ H) (g : ∀ H, G K H v W N D B) : EG K h l W N D B te σ H := fun H1 k A Q q => e H1 k A Q fun H2 k2 A2 => q v H2 k2 A2 (g _)
theorem eg_c {v : V} (g : ∀ H, G K H v W N D B) : EG K h l W N D B (tC v) σ H := eg_ek ek_c g
theorem eg_var {i : Nat} {v : V} (e : σ[i]? = some (some v)) (g : G K (aside H [h, l]) v W N D B) : EG K h l W N D B (tVar i) σ H := fun H1 k A Q q => ⟨v, e, q v H1 (Kp.refl h l H1) A (g_kp g k)⟩
theorem ag_nil : AG K h l 0 W N D B tNil σ H := fun H1 k A Q q => q [] H1 (Kp.refl h l H1) A rfl (fun v z => by cases z)
theorem ag_cons (g : EG K h l W N D B te σ H) (r : AG K h l n W N D B ta σ H) : AG K h l (n + 1) W N D B (tCons te ta) σ H := fun H1 k A Q q =>
  g H1 k A _ fun v H2 k2 A2 g2 => r H2 (k.trans k2) A2 _ fun vs H3 k3 A3 hl hv => q (v :: vs) H3 (k2.trans k3) A3 (by rw [List.length_cons, hl]) fun u hu => by
    rcases List.mem_cons.mp hu with rfl | hu
    · exact g_kp g2 k3
    · exact hv u hu
theorem gl_all {H : Hp} : ∀ {vs : List V}, (∀ v ∈ vs, G K H v W N D B) → GL K H vs (vs.length * W) (vs.length * N) D B
  | [], _ => GL.nil
  | v :: vs, g => by
    have := GL.cons (g v (List.mem_cons_self ..)) (gl_all (vs := vs) fun u hu => g u (List.mem_cons_of_mem _ hu))
    refine this.up ?_ ?_ (Nat.le_refl _) (Nat.le_refl _)
    · rw [List.length_cons, Nat.succ_mul]
      omega
    · rw [List.length_cons, Nat.succ_mul]
      omega
theorem new_kp {H1 : Hp} {p : Addr} {o : HO} (n : H1 p = none) : Kp h l H1 (upd H1 p o) := Kp.ex (Ex.new n)
theorem tg_new (g : AG K h l n W N D B ta σ H) (hn : n ≤ 1000) : GT K h l (n * W) (n * N) D B (tTup ta) σ H := fun H1 k A Q q =>
  g H1 k A _ fun vs H2 k2 A2 hl hv => ⟨sz_of (by omega), fun p hp => by
    obtain ⟨n1, n2⟩ := A2.fresh hp
    refine q p vs _ (k2.trans (new_kp hp)) (A2.new hp) (st_of (by rw [aside_at (off_hl n1 n2)]; exact upd_same)) ?_
    rw [← hl]
    exact gl_kp (gl_all hv) (new_kp hp)⟩
theorem eg_tg (g : GT K h l W N D B te σ H) : EG K h l (W + 10) (N + 1) (D + 1) B te σ H := fun H1 k A Q q => g H1 k A Q fun p xs H2 k2 A2 s g2 => q _ H2 k2 A2 (G.tup s g2)
theorem tg_var {i : Nat} {p : Addr} {xs : List V} (e : σ[i]? = some (some (.ref p))) (s : SqT K (aside H [h, l]) p xs) (g : GL K (aside H [h, l]) xs W N D B) : GT K h l W N D B (tVar i) σ H := fun H1 k A Q q => ⟨_, e, q p xs H1 (Kp.refl h l H1) A (sqt_kp k s) (gl_kp g k)⟩
theorem tg_cat (ga : GT K h l W N D B te σ H) (gb : GT K h l W' N' D B tb σ H) (hz : W + W' ≤ 1000000 ∨ N + N' ≤ 100000) : GT K h l (W + W') (N + N') D B (tOp (rCatA K) te tb) σ H := fun H1 k A Q q =>
  ga H1 k A _ fun p xs H2 k2 A2 s2 g2 => gb H2 (k.trans k2) A2 _ fun p' ys H3 k3 A3 s3 g3 => by
    have s2' := sqt_kp k3 s2
    have g2' := gl_kp g2 k3
    have l2 := g2'.len
    have l3 := g3.len
    have m2 := g2'.lenN
    have m3 := g3.lenN
    refine ⟨p, p', xs, ys, rfl, rfl, ex_t (aside_sub _ _) s2', ex_t (aside_sub _ _) s3, sz_of (by omega), fun z => ?_, fun _ z => ?_, fun _ _ r hr => ?_⟩
    · exact q p' ys H3 (k2.trans k3) A3 s3 (g3.up (by omega) (by omega) (Nat.le_refl _) (Nat.le_refl _))
    · exact q p xs H3 (k2.trans k3) A3 s2' (g2'.up (by omega) (by omega) (Nat.le_refl _) (Nat.le_refl _))
    · obtain ⟨n1, n2⟩ := A3.fresh hr
      exact q r _ _ ((k2.trans k3).trans (new_kp hr)) (A3.new hr) (st_of (by rw [aside_at (off_hl n1 n2)]; exact upd_same)) (gl_kp (g2'.app g3) (new_kp hr))
/-- a part of a slice -/
def PK (h l : Addr) (o : Option Int) (to : TO) (σ : L2.St) (H : Hp) : Prop := ∀ H1, Kp h l H H1 → Hand H1 h l → ∀ Q : Option Int → Hp → Prop, (∀ H2, Kp h l H1 H2 → Hand H2 h l → Q o H2) → to σ H1 Q
theorem pk_no : PK h l none tNoPart σ H := fun H1 _ A Q q => q H1 (Kp.refl h l H1) A
theorem pk_so {i : Int} (e : EK h l (.int i) te σ H) : PK h l (some i) (tPart te) σ H := fun H1 k A Q q => e H1 k A _ fun H2 k2 A2 => ⟨i, rfl, q H2 k2 A2⟩
theorem tg_sl {lo hi : Option Int} {tl th : TO} (g : GT K h l W N D B te σ H) (hl : PK h l lo tl σ H) (hh : PK h l hi th σ H) : GT K h l W N D B (tSl (rSlA K) te tl th) σ H := fun H1 k A Q q =>
  g H1 k A _ fun p xs H2 k2 A2 s2 g2 => hl H2 (k.trans k2) A2 _ fun H3 k3 A3 => hh H3 ((k.trans k2).trans k3) A3 _ fun H4 k4 A4 => by
    have s4 := sqt_kp (k3.trans k4) s2
    have g4 := gl_kp g2 (k3.trans k4)
    refine ⟨p, xs, rfl, ex_t (aside_sub _ _) s4, fun _ => q p xs H4 ((k2.trans k3).trans k4) A4 s4 g4, fun _ r hr => ?_⟩
    obtain ⟨n1, n2⟩ := A4.fresh hr
    exact q r _ _ (((k2.trans k3).trans k4).trans (new_kp hr)) (A4.new hr) (st_of (by rw [aside_at (off_hl n1 n2)]; exact upd_same)) (gl_kp (g4.cut lo hi) (new_kp hr))
theorem tg_rev (g : GT K h l W N D B te σ H) : GT K h l W N D B (tRevT K te) σ H := fun H1 k A Q q =>
  g H1 k A _ fun p xs H2 k2 A2 s2 g2 => ⟨p, xs, rfl, ex_t (aside_sub _ _) s2, fun r hr => by
    obtain ⟨n1, n2⟩ := A2.fresh hr
    exact q r _ _ (k2.trans (new_kp hr)) (A2.new hr) (st_of (by rw [aside_at (off_hl n1 n2)]; exact upd_same)) (gl_kp g2.rev (new_kp hr))⟩
def rListT (K : PySem.W.Frag) : List V → Hp → VK → Prop := fun xs H Q => ∃ p ys, xs = [.ref p] ∧ (SqL K H p ys ∨ SqT K H p ys) ∧ ∀ l, H l = none → Q (.ref l) (upd H l (.lst ys))
theorem listTK {X : Cx} (h : X.K = K) : CallR X (.type "list") (rListT K) := by subst h; exact call_list_of
theorem eg_listT (g : GT K h l W N D B te σ H) : EG K h l (W + 10) (N + 1) (D + 1) B (tCB (rListT K) (tCons te tNil)) σ H := fun H1 k A Q q =>
  g H1 k A _ fun p xs H2 k2 A2 s2 g2 => ⟨p, xs, rfl, Or.inr (ex_t (aside_sub _ _) s2), fun r hr => by
    obtain ⟨n1, n2⟩ := A2.fresh hr
    exact q _ _ (k2.trans (new_kp hr)) (A2.new hr) (G.lst (by rw [aside_at (off_hl n1 n2)]; exact upd_same) (gl_kp g2 (new_kp hr)))⟩
theorem eg_lst (g : AG K h l n W N D B ta σ H) (hn : n ≤ 1000) : EG K h l (n * W + 10) (n * N + 1) (D + 1) B (tLst ta) σ H := fun H1 k A Q q =>
  g H1 k A _ fun vs H2 k2 A2 hl hv => ⟨sz_of (by omega), fun p hp => by
    obtain ⟨n1, n2⟩ := A2.fresh hp
    refine q _ _ (k2.trans (new_kp hp)) (A2.new hp) (G.lst (by rw [aside_at (off_hl n1 n2)]; exact upd_same) ?_)
    rw [← hl]
    exact gl_kp (gl_all hv) (new_kp hp)⟩
theorem eg_dnew : EG K h l 10 1 1 B tDNewK σ H := fun H1 k A Q q p hp => by
  obtain ⟨n1, n2⟩ := A.fresh hp
  exact q _ _ (new_kp hp) (A.new hp) (G.dct (by rw [aside_at (off_hl n1 n2)]; exact upd_same))
theorem ng_lst (g : AG K h l n W N D B ta σ H) (hn : n ≤ 1000) : NG K h l n W N D B (tLst ta) σ H := fun H1 k A Q q =>
  g H1 k A _ fun vs H2 k2 A2 hl hv => ⟨sz_of (by omega), fun p hp => by
    obtain ⟨n1, n2⟩ := A2.fresh hp
    exact q p vs _ (k2.trans (new_kp hp)) (A2.new hp) n1 n2 upd_same hl fun v z => g_kp (hv v z) (new_kp hp)⟩
theorem ng_var {i : Nat} {p : Addr} {vs : List V} (e : σ[i]? = some (some (.ref p))) (n1 : p ≠ h) (n2 : p ≠ l) (hp : H p = some (.lst vs)) (hl : vs.length = n) (g : ∀ v ∈ vs, G K (aside H [h, l]) v W N D B) : NG K h l n W N D B (tVar i) σ H := fun H1 k A Q q =>
  ⟨_, e, q p vs H1 (Kp.refl h l H1) A n1 n2 (k _ _ n1 n2 hp) hl fun v z => g_kp (g v z) k⟩
theorem ng_cat (ga : NG K h l n W N D B te σ H) (gb : NG K h l m W N D B tb σ H) (hz : n + m ≤ 1000) : NG K h l (n + m) W N D B (tOp rCat te tb) σ H := fun H1 k A Q q =>
  ga H1 k A _ fun p vs H2 k2 A2 n1 n2 h2 l2 g2 => gb H2 (k.trans k2) A2 _ fun p' us H3 k3 A3 m1 m2 h3 l3 g3 => ⟨p, p', vs, us, rfl, rfl, k3 _ _ n1 n2 h2, h3, sz_of (by omega), fun r hr => by
    obtain ⟨o1, o2⟩ := A3.fresh hr
    refine q r _ _ ((k2.trans k3).trans (new_kp hr)) (A3.new hr) o1 o2 upd_same (by rw [List.length_append]; omega) fun v z => ?_
    rcases List.mem_append.mp z with z | z
    · exact g_kp (g_kp (g2 v z) k3) (new_kp hr)
    · exact g_kp (g3 v z) (new_kp hr)⟩
theorem eg_ix {i : Nat} {r : Int} (g : NG K h l n W N D B te σ H) (e : σ[i]? = some (some (.int r))) (r0 : 0 ≤ r) (r1 : r < n) : EG K h l W N D B (tOp (rIxL K) te (tVar i)) σ H := fun H1 k A Q q =>
  g H1 k A _ fun p vs H2 k2 A2 n1 n2 h2 l2 g2 => by
    have hi : r.toNat < vs.length := by omega
    refine ⟨.int r, e, p, vs, r, vs[r.toNat], rfl, rfl, sq_of h2, ?_, q _ H2 k2 A2 (g2 _ (List.getElem_mem hi))⟩
    unfold atI ixN
    rw [if_pos r0, if_pos (by omega)]
    simp [hi]
/-- one text behind another -/
theorem eg_cats {a b : Str} (ha : EK h l (.str a) te σ H) (hb : EK h l (.str b) tb σ H) (hz : a.length + b.length ≤ 1000000) (aa : asc a) (ab : asc b) (hW : 10 * (a.length + b.length) + 10 ≤ W) : EG K h l W 1 0 B (tOp (fun x y H Q => ∃ i j, x = V.str i ∧ y = V.str j ∧ i.length + j.length ≤ sizeLine ∧ Q (.str (i ++ j)) H) te tb) σ H := fun H1 k A Q q =>
  ha H1 k A _ fun H2 k2 A2 => hb H2 (k.trans k2) A2 _ fun H3 k3 A3 => ⟨a, b, rfl, rfl, Nat.le_trans hz (by decide), q _ H3 (k2.trans k3) A3 (G.str (by rw [Str.length_append]; exact hW) (asc_app aa ab))⟩
end
end NL

/-! truths among numbers: True + 1, True - 1, 0 - True -/
namespace NL
open PySem PySem.Spec PyProof.Rows L2 Evl
def numV : V → Option Int
  | .int i => some i
  | .bl b => some (if b = true then 1 else 0)
  | _ => none
section
variable {P : Program} {w : World} {A : Around} {E : Value → Shared → Prop} {s : Shared} {p : Bool} {i : Int} {u : Tok} {Q : Value → Shared → Prop}
theorem made_add (p : Bool) (i : Int) (u : Tok) : Gives (Builtin.«int.__add__» ⟨[.bool p, .int i u], []⟩) (.int ((if p = true then (1 : Int) else 0) + i)) := by
  cases p <;> exact .of_eq rfl
theorem made_sub (p : Bool) (i : Int) (u : Tok) : Gives (Builtin.«int.__sub__» ⟨[.bool p, .int i u], []⟩) (.int ((if p = true then (1 : Int) else 0) - i)) := by
  cases p <;> exact .of_eq rfl
theorem made_bus (p : Bool) (i : Int) (u : Tok) : Gives (Builtin.«int.__sub__» ⟨[.int i u, .bool p], []⟩) (.int (i - (if p = true then (1 : Int) else 0))) := by
  cases p <;> exact .of_eq rfl
theorem add_bi (q : Q (.int ((if p = true then (1 : Int) else 0) + i) s.toks) { s with toks := s.toks + 1 }) : wpAny (model P w) A (binaryOp .Add (.bool p) (.int i u)) Q E s :=
  binaryOp_left_gives (op := .Add) (T := "bool") (U := "int") (by decide) (PySem.typeIs_bool s p) (fun s' => typeIs_int s' i u) PySem.F.fills_bool_add PySem.F.fills_int_add PySem.F.sub_int_bool PySem.F.slot_bool_add PySem.F.slot_int_radd PySem.F.entry_int_add (PySem.F.args_int_add_2 _ _) (made_add p i u) trivial q
theorem sub_bi (q : Q (.int ((if p = true then (1 : Int) else 0) - i) s.toks) { s with toks := s.toks + 1 }) : wpAny (model P w) A (binaryOp .Sub (.bool p) (.int i u)) Q E s :=
  binaryOp_left_gives (op := .Sub) (T := "bool") (U := "int") (by decide) (PySem.typeIs_bool s p) (fun s' => typeIs_int s' i u) PySem.F.fills_bool_sub PySem.F.fills_int_sub PySem.F.sub_int_bool PySem.F.slot_bool_sub PySem.F.slot_int_rsub PySem.F.entry_int_sub (PySem.F.args_int_sub_2 _ _) (made_sub p i u) trivial q
theorem refl_sub : reflectedDiffers (.type "int") (.type "bool") "sub" = pure false := by
  unfold reflectedDiffers
  change (typeLookup (.type "bool") (dunderR "sub") >>= fun rb => typeLookup (.type "int") (dunderR "sub") >>= fun ra => pure (rb.isSome && rb != ra)) = _
  rw [typeLookup_type, typeLookup_type, builtinLookup_eq_fast]
  kernel_rfl
theorem sub_ib (q : Q (.int (i - (if p = true then (1 : Int) else 0)) s.toks) { s with toks := s.toks + 1 }) : wpAny (model P w) A (binaryOp .Sub (.int i u) (.bool p)) Q E s :=
  binaryOp_sub_gives (op := .Sub) (T := "int") (U := "bool") (by decide) (typeIs_int s i u) (PySem.typeIs_bool s p) PySem.F.fills_int_sub PySem.F.fills_bool_sub isSubtype_bool_int refl_sub PySem.F.slot_int_sub PySem.F.entry_int_sub (PySem.F.args_int_sub_2 _ _) (made_bus p i u) trivial q
end
def rAddW : R2 := fun x y H Q => ∃ i j, numV x = some i ∧ y = .int j ∧ Q (.int (i + j)) H
def rSubW : R2 := fun x y H Q => ∃ i j, ((numV x = some i ∧ y = .int j) ∨ (x = .int i ∧ numV y = some j)) ∧ Q (.int (i - j)) H
section
variable {X : Cx}
theorem num_rel {x : V} {v : Value} {i : Int} (h : numV x = some i) (r : RelV x v) : (∃ t, x = .int i ∧ v = .int i t) ∨ ∃ b : Bool, x = .bl b ∧ v = .bool b ∧ i = if b = true then 1 else 0 := by
  cases x with
  | int j => cases h; obtain ⟨t, rfl⟩ := r; exact Or.inl ⟨t, rfl, rfl⟩
  | bl b => cases h; cases r; exact Or.inr ⟨b, rfl, rfl, rfl⟩
  | _ => cases h
theorem op_addW : OpR X (binaryOp .Add) rAddW := by
  intro pins s σ H x y v u Q I rx ry told
  obtain ⟨i, j, hx, rfl, q⟩ := told
  obtain ⟨t, rfl⟩ := ry
  rcases num_rel hx rx with ⟨t', rfl, rfl⟩ | ⟨b, rfl, rfl, rfl⟩
  · exact PySem.P.add_int ⟨.int (i + j), H, I.tok _, ⟨_, rfl⟩, q⟩
  · exact add_bi ⟨.int _, H, I.tok _, ⟨_, rfl⟩, q⟩
theorem op_subW : OpR X (binaryOp .Sub) rSubW := by
  intro pins s σ H x y v u Q I rx ry told
  obtain ⟨i, j, ⟨hx, rfl⟩ | ⟨rfl, hy⟩, q⟩ := told
  · obtain ⟨t, rfl⟩ := ry
    rcases num_rel hx rx with ⟨t', rfl, rfl⟩ | ⟨b, rfl, rfl, rfl⟩
    · exact PySem.P.sub_int ⟨.int (i - j), H, I.tok _, ⟨_, rfl⟩, q⟩
    · exact sub_bi ⟨.int _, H, I.tok _, ⟨_, rfl⟩, q⟩
  · obtain ⟨t, rfl⟩ := rx
    rcases num_rel hy ry with ⟨t', rfl, rfl⟩ | ⟨b, rfl, rfl, rfl⟩
    · exact PySem.P.sub_int ⟨.int (i - j), H, I.tok _, ⟨_, rfl⟩, q⟩
    · exact sub_ib ⟨.int _, H, I.tok _, ⟨_, rfl⟩, q⟩
end
/-! ### steps with tuples, in the heap beside the hand -/
section
variable {K : PySem.W.Frag} {h l a b : Addr} {xs ys : List V} {H : Hp} {Q : VK}
theorem cat_step (A : Hand H h l) (sa : SqT K (aside H [h, l]) a xs) (sb : SqT K (aside H [h, l]) b ys) (hz : xs.length + ys.length ≤ 100000) (q : ∀ r H', Ex H H' → SqT K (aside H' [h, l]) r (xs ++ ys) → Q (.ref r) H') : rCatA K (.ref a) (.ref b) H Q := by
  refine ⟨a, b, xs, ys, rfl, rfl, ex_t (aside_sub _ _) sa, ex_t (aside_sub _ _) sb, sz_of hz, fun z => ?_, fun _ z => ?_, fun _ _ r hr => ?_⟩
  · subst z
    exact q b H (Ex.refl H) sb
  · subst z
    rw [List.append_nil] at q
    exact q a H (Ex.refl H) sa
  · obtain ⟨n1, n2⟩ := A.fresh hr
    exact q r _ (Ex.new hr) (st_of (by rw [aside_at (off_hl n1 n2)]; exact upd_same))
theorem sl_step {lo hi : Option Int} (A : Hand H h l) (sa : SqT K (aside H [h, l]) a xs) (q : ∀ r H', Ex H H' → SqT K (aside H' [h, l]) r (cutV xs lo hi) → Q (.ref r) H') : rSlA K (.ref a) lo hi H Q := by
  refine ⟨a, xs, rfl, ex_t (aside_sub _ _) sa, fun z => ?_, fun _ r hr => ?_⟩
  · have e : cutV xs lo hi = xs := by
      unfold cutV
      rw [z.1, z.2]
      simp
    rw [e] at q
    exact q a H (Ex.refl H) sa
  · obtain ⟨n1, n2⟩ := A.fresh hr
    exact q r _ (Ex.new hr) (st_of (by rw [aside_at (off_hl n1 n2)]; exact upd_same))
theorem cut_to {i : Nat} (hi : i ≤ xs.length) : cutV xs none (some (i : Int)) = xs.take i := by
  unfold cutV
  rw [HT.sIx_none, HT.sIx_nat, Nat.min_eq_left hi]
  simp
theorem cut_from {i : Nat} : cutV xs (some (i : Int)) none = xs.drop i := by
  unfold cutV
  rw [HT.sIx_none, HT.sIx_nat]
  by_cases hi : i ≤ xs.length
  · rw [Nat.min_eq_left hi, List.take_of_length_le (by rw [List.length_drop]; omega)]
  · rw [Nat.min_eq_right (by omega), List.drop_of_length_le (Nat.le_refl _), List.drop_of_length_le (by omega)]
    simp
theorem at_nat {i : Nat} {v : V} (h : xs[i]? = some v) : atI xs (i : Int) = some v := by
  have hi := (List.getElem?_eq_some_iff.mp h).1
  unfold atI ixN
  rw [if_pos (by omega), if_pos (by omega)]
  simpa using h
end
/-! ### a place in a datum -/
def leads : PyData → List Nat → Prop
  | _, [] => True
  | .tuple ds, i :: is => match ds[i]? with
    | some e => leads e is
    | none => False
  | _, _ :: _ => False
theorem leads_cons {d : PyData} {i : Nat} {is : List Nat} (h : leads d (i :: is)) : ∃ ds e, d = .tuple ds ∧ ds[i]? = some e ∧ leads e is := by
  cases d with
  | tuple ds =>
    simp only [leads] at h
    cases he : ds[i]? with
    | none => rw [he] at h; exact h.elim
    | some e => rw [he] at h; exact ⟨ds, e, rfl, he, h⟩
  | _ => simp only [leads] at h
/-- what is led to -/
def there : PyData → List Nat → PyData
  | d, [] => d
  | .tuple ds, i :: is => there (ds.getD i .none) is
  | d, _ :: _ => d
theorem leads_app : ∀ {is : List Nat} {d : PyData} {i : Nat} {ds : List PyData}, leads d is → there d is = .tuple ds → i < ds.length → leads d (is ++ [i]) ∧ there d (is ++ [i]) = ds.getD i .none
  | [], d, i, ds, _, h, hi => by
    simp only [there] at h
    subst h
    simp only [List.nil_append, leads, there, List.getElem?_eq_getElem hi]
    exact ⟨trivial, trivial⟩
  | j :: is, d, i, ds, hl, h, hi => by
    obtain ⟨es, e, rfl, he, hl2⟩ := leads_cons hl
    simp only [there] at h
    have ee : es.getD j .none = e := by rw [List.getD_eq_getElem?_getD, he]; rfl
    rw [ee] at h
    obtain ⟨k1, k2⟩ := leads_app (is := is) hl2 h hi
    simp only [List.cons_append, leads, there, he, ee]
    exact ⟨k1, k2⟩
theorem dya_get {K : PySem.W.Frag} {H : Hp} : ∀ {vs : List V} {ds : List PyData} {i : Nat} {v : V}, DyAll K H vs ds → vs[i]? = some v → ∃ d, ds[i]? = some d ∧ Dy K H v d
  | _, _, _, _, .nil, e => by simp at e
  | _, _, 0, _, .cons r _, e => by simp at e; subst e; exact ⟨_, rfl, r⟩
  | _, _, i + 1, v, .cons _ t, e => by
    obtain ⟨d, h1, h2⟩ := dya_get (i := i) (v := v) t (by simpa using e)
    exact ⟨d, by simpa using h1, h2⟩
theorem dya_len {K : PySem.W.Frag} {H : Hp} {vs : List V} {ds : List PyData} (h : DyAll K H vs ds) : vs.length = ds.length := dxa_len (dya_dx h)
theorem dya_take {K : PySem.W.Frag} {H : Hp} : ∀ {vs : List V} {ds : List PyData} (i : Nat), DyAll K H vs ds → DyAll K H (vs.take i) (ds.take i)
  | _, _, 0, _ => by simp; exact .nil
  | _, _, i + 1, .nil => by simp; exact .nil
  | _, _, i + 1, .cons a b => by simp only [List.take_succ_cons]; exact .cons a (dya_take i b)
theorem dya_drop {K : PySem.W.Frag} {H : Hp} : ∀ {vs : List V} {ds : List PyData} (i : Nat), DyAll K H vs ds → DyAll K H (vs.drop i) (ds.drop i)
  | _, _, 0, h => by simpa using h
  | _, _, i + 1, .nil => by simp; exact .nil
  | _, _, i + 1, .cons a b => by simp only [List.drop_succ_cons]; exact dya_drop i b
theorem split_at {ds : List PyData} {i : Nat} {e : PyData} (h : ds[i]? = some e) : ds = ds.take i ++ e :: ds.drop (i + 1) := by
  obtain ⟨hi, he⟩ := List.getElem?_eq_some_iff.mp h
  rw [← he, List.getElem_cons_drop, List.take_append_drop]
theorem hu_e {k : Nat} {A : Around} (hr : Room k A) : A.units < cLine := by
  have := hr.un
  omega
theorem hu_e64 {k : Nat} {A : Around} (hr : Room k A) : A.units + 64 < cLine := by
  have := hr.un
  omega
end NL

/-! rows of a plan with the groups' bounds -/
namespace NL
open PySem L2 Evl
/-- name, a group's bound, the groups around it -/
abbrev Rb := Str × Option Int × List Str
def obV : Option Int → V
  | none => .non
  | some b => .int b
mutual
def Tr.rows : Tr → List Str → List Rb
  | .hand n, p => [(n, none, p)]
  | .grp n b ms, p => (n, some b, p) :: rowss ms (n :: p)
def rowss : List Tr → List Str → List Rb
  | [], _ => []
  | t :: ts, p => t.rows p ++ rowss ts p
end
def plainR (r : Rb) : Rw := (r.1, r.2.1.isSome, r.2.2)
mutual
theorem rows_told : ∀ (t : Tr) (p : List Str), (t.rows p).map plainR = t.told p
  | .hand n, p => by simp [Tr.rows, Tr.told, plainR]
  | .grp n b ms, p => by simp [Tr.rows, Tr.told, plainR, rowss_told ms]
theorem rowss_told : ∀ (ts : List Tr) (p : List Str), (rowss ts p).map plainR = tolds ts p
  | [], p => by simp [rowss, tolds]
  | t :: ts, p => by simp [rowss, tolds, rows_told t, rowss_told ts]
end
theorem rows_len (t : Tr) (p : List Str) : (t.rows p).length = t.size := by rw [← told_len t p, ← rows_told, List.length_map]
theorem rowss_len (ts : List Tr) (p : List Str) : (rowss ts p).length = sizes ts := by rw [← tolds_len ts p, ← rowss_told, List.length_map]
theorem rowss_take : ∀ (ts : List Tr) (i : Nat) (t : Tr) (p : List Str), ts[i]? = some t → rowss (ts.take (i + 1)) p = rowss (ts.take i) p ++ t.rows p
  | [], _, _, _, h => by simp at h
  | u :: ts, 0, t, p, h => by
    simp at h
    subst h
    simp [rowss]
  | u :: ts, i + 1, t, p, h => by
    have ih := rowss_take ts i t p (by simpa using h)
    simp only [List.take_succ_cons, rowss]
    rw [ih, List.append_assoc]
/-- a row with its bound, in the heap -/
def RowB (H : Hp) (v : V) (r : Rb) : Prop := ∃ a pa, v = .ref a ∧ H a = some (.tup [.str r.1, obV r.2.1, .ref pa]) ∧ H pa = some (.tup (r.2.2.map V.str))
inductive RowsB (H : Hp) : List V → List Rb → Prop
  | nil : RowsB H [] []
  | cons {v : V} {vs : List V} {r : Rb} {rs : List Rb} : RowB H v r → RowsB H vs rs → RowsB H (v :: vs) (r :: rs)
theorem RowB.tk {H H' : Hp} {v : V} {r : Rb} (k : TK H H') (h : RowB H v r) : RowB H' v r := by
  obtain ⟨a, pa, e, h1, h2⟩ := h
  exact ⟨a, pa, e, k _ _ h1, k _ _ h2⟩
theorem RowsB.tk {H H' : Hp} (k : TK H H') : ∀ {vs : List V} {rs : List Rb}, RowsB H vs rs → RowsB H' vs rs
  | _, _, .nil => .nil
  | _, _, .cons a b => .cons (a.tk k) (b.tk k)
theorem RowsB.app {H : Hp} : ∀ {vs us : List V} {rs qs : List Rb}, RowsB H vs rs → RowsB H us qs → RowsB H (vs ++ us) (rs ++ qs)
  | _, _, _, _, .nil, h => h
  | _, _, _, _, .cons a b, h => .cons a (b.app h)
theorem RowsB.one {H : Hp} {v : V} {r : Rb} (h : RowB H v r) : RowsB H [v] [r] := .cons h .nil
theorem RowsB.len {H : Hp} : ∀ {vs : List V} {rs : List Rb}, RowsB H vs rs → vs.length = rs.length
  | _, _, .nil => rfl
  | _, _, .cons _ t => by rw [List.length_cons, List.length_cons, t.len]
theorem RowsB.get {H : Hp} : ∀ {vs : List V} {rs : List Rb} {i : Nat} {v : V}, RowsB H vs rs → vs[i]? = some v → ∃ r, rs[i]? = some r ∧ RowB H v r
  | _, _, _, _, .nil, e => by simp at e
  | _, _, 0, _, .cons r _, e => by simp at e; subst e; exact ⟨_, rfl, r⟩
  | _, _, i + 1, v, .cons _ t, e => by
    obtain ⟨d, h1, h2⟩ := t.get (i := i) (v := v) (by simpa using e)
    exact ⟨d, by simpa using h1, h2⟩
def handsOf (t : Tr) : List Str := ((t.told []).filter fun r => !r.2.1).map (·.1)
def groupsOf (t : Tr) : List Str := ((t.told []).filter fun r => r.2.1).map (·.1)
theorem hands_rows (t : Tr) : handsOf t = ((t.rows []).filter fun r => !r.2.1.isSome).map (·.1) := by
  unfold handsOf
  rw [← rows_told, List.filter_map, List.map_map]
  rfl
theorem groups_rows (t : Tr) : groupsOf t = ((t.rows []).filter fun r => r.2.1.isSome).map (·.1) := by
  unfold groupsOf
  rw [← rows_told, List.filter_map, List.map_map]
  rfl
theorem find_rows {x : Str} : ∀ {rs : List Rb}, (rs.map plainR).find? (fun r => decide (r.1 = x)) = (rs.find? fun r => decide (r.1 = x)).map plainR
  | [] => rfl
  | r :: rs => by
    rw [List.map_cons, List.find?_cons, List.find?_cons]
    by_cases h : r.1 = x
    · have e : decide ((plainR r).1 = x) = true := decide_eq_true h
      rw [e, decide_eq_true h]
      rfl
    · have e : decide ((plainR r).1 = x) = false := decide_eq_false h
      rw [e, decide_eq_false h]
      exact find_rows
end NL

/-! trees: groups in them, paths, names told for others -/
namespace NL
open PySem L2 Evl
mutual
theorem told_under : ∀ (t : Tr) (q p : List Str), t.told (q ++ p) = (t.told q).map fun r => (r.1, r.2.1, r.2.2 ++ p)
  | .hand n, q, p => by simp [Tr.told]
  | .grp n b ms, q, p => by
    simp only [Tr.told, List.map_cons]
    rw [show n :: (q ++ p) = (n :: q) ++ p from rfl, tolds_under ms (n :: q) p]
theorem tolds_under : ∀ (ts : List Tr) (q p : List Str), tolds ts (q ++ p) = (tolds ts q).map fun r => (r.1, r.2.1, r.2.2 ++ p)
  | [], q, p => by simp [tolds]
  | t :: ts, q, p => by
    simp only [tolds, List.map_append]
    rw [told_under t, tolds_under ts]
end
mutual
def Tr.inn : Tr → List Str → List (Tr × List Str)
  | .hand _, _ => []
  | .grp n b ms, p => (.grp n b ms, p) :: inns ms (n :: p)
def inns : List Tr → List Str → List (Tr × List Str)
  | [], _ => []
  | t :: ts, p => t.inn p ++ inns ts p
end
mutual
theorem inn_in : ∀ (t : Tr) (p : List Str) (o : Tr) (q : List Str), (o, q) ∈ t.inn p → ∃ A B, t.told p = A ++ o.told q ++ B
  | .hand n, p, o, q, h => by simp [Tr.inn] at h
  | .grp n b ms, p, o, q, h => by
    simp only [Tr.inn, List.mem_cons, Prod.mk.injEq] at h
    rcases h with ⟨rfl, rfl⟩ | h
    · exact ⟨[], [], by simp⟩
    · obtain ⟨A, B, e⟩ := inns_in ms (n :: p) o q h
      exact ⟨(n, true, p) :: A, B, by simp [Tr.told, e]⟩
theorem inns_in : ∀ (ts : List Tr) (p : List Str) (o : Tr) (q : List Str), (o, q) ∈ inns ts p → ∃ A B, tolds ts p = A ++ o.told q ++ B
  | [], p, o, q, h => by simp [inns] at h
  | t :: ts, p, o, q, h => by
    simp only [inns, List.mem_append] at h
    rcases h with h | h
    · obtain ⟨A, B, e⟩ := inn_in t p o q h
      exact ⟨A, B ++ tolds ts p, by simp [tolds, e]⟩
    · obtain ⟨A, B, e⟩ := inns_in ts p o q h
      exact ⟨t.told p ++ A, B, by simp [tolds, e]⟩
end
mutual
theorem inn_ok : ∀ (t : Tr) (p : List Str) (o : Tr) (q : List Str), (o, q) ∈ t.inn p → t.ok → o.ok ∧ o.deep ≤ t.deep ∧ ∃ n b ms, o = .grp n b ms
  | .hand n, p, o, q, h, _ => by simp [Tr.inn] at h
  | .grp n b ms, p, o, q, h, ho => by
    simp only [Tr.inn, List.mem_cons, Prod.mk.injEq] at h
    rcases h with ⟨rfl, rfl⟩ | h
    · exact ⟨ho, Nat.le_refl _, _, _, _, rfl⟩
    · simp only [Tr.ok] at ho
      obtain ⟨h1, h2, h3⟩ := inns_ok ms (n :: p) o q h ho.2.2.2
      exact ⟨h1, by simp only [Tr.deep]; omega, h3⟩
theorem inns_ok : ∀ (ts : List Tr) (p : List Str) (o : Tr) (q : List Str), (o, q) ∈ inns ts p → oks ts → o.ok ∧ o.deep ≤ deeps ts ∧ ∃ n b ms, o = .grp n b ms
  | [], p, o, q, h, _ => by simp [inns] at h
  | t :: ts, p, o, q, h, ho => by
    simp only [inns, List.mem_append] at h
    simp only [oks] at ho
    simp only [deeps]
    rcases h with h | h
    · obtain ⟨h1, h2, h3⟩ := inn_ok t p o q h ho.1
      exact ⟨h1, by omega, h3⟩
    · obtain ⟨h1, h2, h3⟩ := inns_ok ts p o q h ho.2
      exact ⟨h1, by omega, h3⟩
end
mutual
theorem inn_len : ∀ (t : Tr) (p : List Str), (t.inn p).length ≤ t.size
  | .hand n, p => by simp [Tr.inn]
  | .grp n b ms, p => by
    have := inns_len ms (n :: p)
    simp only [Tr.inn, List.length_cons, Tr.size]
    omega
theorem inns_len : ∀ (ts : List Tr) (p : List Str), (inns ts p).length ≤ sizes ts
  | [], p => by simp [inns]
  | t :: ts, p => by
    have := inn_len t p
    have := inns_len ts p
    simp only [inns, List.length_append, sizes]
    omega
end
theorem inns_take : ∀ (ts : List Tr) (i : Nat) (t : Tr) (p : List Str), ts[i]? = some t → inns (ts.take (i + 1)) p = inns (ts.take i) p ++ t.inn p
  | [], _, _, _, h => by simp at h
  | u :: ts, 0, t, p, h => by
    simp at h
    subst h
    simp [inns]
  | u :: ts, i + 1, t, p, h => by
    have ih := inns_take ts i t p (by simpa using h)
    simp only [List.take_succ_cons, inns]
    rw [ih, List.append_assoc]
theorem tolds_app : ∀ (ts us : List Tr) (p : List Str), tolds (ts ++ us) p = tolds ts p ++ tolds us p
  | [], us, p => by simp [tolds]
  | t :: ts, us, p => by simp [tolds, tolds_app ts us p]
theorem find_rowN : ∀ {rs : List Rw} {r : Rw}, (rs.map (·.1)).Nodup → r ∈ rs → rs.find? (fun x => decide (x.1 = r.1)) = some r
  | [], _, _, h => by cases h
  | s :: rs, r, nd, h => by
    rw [List.map_cons, List.nodup_cons] at nd
    rw [List.find?_cons]
    rcases List.mem_cons.mp h with rfl | h
    · rw [decide_eq_true rfl]
    · have ne : s.1 ≠ r.1 := fun e => nd.1 (by rw [e]; exact List.mem_map.mpr ⟨r, h, rfl⟩)
      rw [decide_eq_false ne]
      exact find_rowN nd.2 h
theorem hands_under (o : Tr) (q : List Str) : ((o.told q).filter fun r => !r.2.1).map (·.1) = handsOf o := by
  have e := told_under o [] q
  rw [List.nil_append] at e
  rw [e]
  unfold handsOf
  rw [List.filter_map, List.map_map]
  rfl
theorem groups_under (o : Tr) (q : List Str) : ((o.told q).filter fun r => r.2.1).map (·.1) = groupsOf o := by
  have e := told_under o [] q
  rw [List.nil_append] at e
  rw [e]
  unfold groupsOf
  rw [List.filter_map, List.map_map]
  rfl
theorem nodup_sub {α : Type} {A X B l : List α} (h : l = A ++ X ++ B) (nd : l.Nodup) : X.Nodup := by
  subst h
  exact (List.nodup_append.mp (List.nodup_append.mp nd).1).2.1
theorem nms_sub {t o : Tr} {p q : List Str} {A B : List Rw} (h : t.told p = A ++ o.told q ++ B) : t.nms = A.map (·.1) ++ o.nms ++ B.map (·.1) := by
  rw [← told_nms t p, h, List.map_append, List.map_append, told_nms]
theorem hands_in (t : Tr) : ∀ x ∈ handsOf t, x ∈ t.nms := fun x hx => by
  unfold handsOf at hx
  obtain ⟨r, h1, rfl⟩ := List.mem_map.mp hx
  rw [← told_nms t []]
  exact List.mem_map.mpr ⟨r, (List.mem_filter.mp h1).1, rfl⟩
theorem groups_in (t : Tr) : ∀ x ∈ groupsOf t, x ∈ t.nms := fun x hx => by
  unfold groupsOf at hx
  obtain ⟨r, h1, rfl⟩ := List.mem_map.mp hx
  rw [← told_nms t []]
  exact List.mem_map.mpr ⟨r, (List.mem_filter.mp h1).1, rfl⟩
theorem part_nodup : ∀ {rs : List Rw}, (rs.map (·.1)).Nodup → (((rs.filter fun r => !r.2.1).map (·.1)) ++ ((rs.filter fun r => r.2.1).map (·.1))).Nodup
  | [], _ => by simp
  | r :: rs, nd => by
    rw [List.map_cons, List.nodup_cons] at nd
    have ih := part_nodup nd.2
    have out : ∀ f : Rw → Bool, r.1 ∉ (rs.filter f).map (·.1) := fun f h => by
      obtain ⟨s, h1, h2⟩ := List.mem_map.mp h
      exact nd.1 (List.mem_map.mpr ⟨s, (List.mem_filter.mp h1).1, h2⟩)
    cases hr : r.2.1 with
    | false =>
      simp only [List.filter_cons, hr, Bool.not_false, if_true, Bool.false_eq_true, if_false, List.map_cons, List.cons_append]
      refine List.nodup_cons.mpr ⟨fun h => ?_, ih⟩
      rcases List.mem_append.mp h with h | h
      · exact out _ h
      · exact out _ h
    | true =>
      simp only [List.filter_cons, hr, Bool.not_true, if_true, Bool.false_eq_true, if_false, List.map_cons]
      rw [List.nodup_append] at ih ⊢
      refine ⟨ih.1, List.nodup_cons.mpr ⟨out _, ih.2.1⟩, fun a ha b hb => ?_⟩
      rcases List.mem_cons.mp hb with rfl | hb
      · exact fun e => out _ (e ▸ ha)
      · exact ih.2.2 a ha b hb
theorem names_nodup {t : Tr} (h : t.nms.Nodup) : (handsOf t ++ groupsOf t).Nodup := part_nodup (by rw [told_nms]; exact h)
theorem part_len : ∀ rs : List Rw, ((rs.filter fun r => !r.2.1).map (·.1)).length + ((rs.filter fun r => r.2.1).map (·.1)).length = rs.length
  | [] => rfl
  | r :: rs => by
    have ih := part_len rs
    simp only [List.length_map] at ih ⊢
    cases hr : r.2.1 with
    | false => simp only [List.filter_cons, hr, Bool.not_false, if_true, Bool.false_eq_true, if_false, List.length_cons]; omega
    | true => simp only [List.filter_cons, hr, Bool.not_true, if_true, Bool.false_eq_true, if_false, List.length_cons]; omega
theorem names_len (t : Tr) : (handsOf t ++ groupsOf t).length = t.size := by
  rw [List.length_append]
  unfold handsOf groupsOf
  rw [part_len, told_len]
/-! ### each row's path ends at the whole -/
theorem tolds_end (ts : List Tr) (p : List Str) : ∀ r ∈ tolds ts p, ∃ q, r.2.2 = q ++ p := fun r h => by
  have e := tolds_under ts [] p
  rw [List.nil_append] at e
  rw [e] at h
  obtain ⟨s, _, rfl⟩ := List.mem_map.mp h
  exact ⟨_, rfl⟩
/-! ### names told for others -/
mutual
def Tr.ren (o w : Str) : Tr → Tr
  | .hand n => .hand (if n = o then w else n)
  | .grp n b ms => .grp (if n = o then w else n) b (rens o w ms)
def rens (o w : Str) : List Tr → List Tr
  | [] => []
  | t :: ts => t.ren o w :: rens o w ts
end
mutual
theorem ren_facts (o w : Str) : ∀ t : Tr, (t.ren o w).nms = t.nms.map (fun n => if n = o then w else n) ∧ (t.ren o w).size = t.size ∧ (t.ren o w).deep = t.deep ∧ (t.ok → (t.ren o w).ok)
  | .hand n => by simp [Tr.ren, Tr.nms, Tr.size, Tr.deep, Tr.ok]
  | .grp n b ms => by
    obtain ⟨h1, h2, h3, h4⟩ := rens_facts o w ms
    simp only [Tr.ren, Tr.nms, Tr.size, Tr.deep, Tr.ok, h1, h2, h3, List.map_cons]
    refine ⟨trivial, trivial, trivial, fun h => ⟨h.1, h.2.1, ?_, h4 h.2.2.2⟩⟩
    cases ms with
    | nil => exact absurd rfl h.2.2.1
    | cons m ms => simp [rens]
theorem rens_facts (o w : Str) : ∀ ts : List Tr, nmss (rens o w ts) = (nmss ts).map (fun n => if n = o then w else n) ∧ sizes (rens o w ts) = sizes ts ∧ deeps (rens o w ts) = deeps ts ∧ (oks ts → oks (rens o w ts))
  | [] => by simp [rens, nmss, sizes, deeps, oks]
  | t :: ts => by
    obtain ⟨h1, h2, h3, h4⟩ := ren_facts o w t
    obtain ⟨k1, k2, k3, k4⟩ := rens_facts o w ts
    simp only [rens, nmss, sizes, deeps, oks, h1, h2, h3, k1, k2, k3, List.map_append]
    exact ⟨trivial, trivial, trivial, fun h => ⟨h4 h.1, k4 h.2⟩⟩
end
theorem rens_take (o w : Str) : ∀ (ts : List Tr) (i : Nat) (t : Tr), ts[i]? = some t → rens o w (ts.take (i + 1)) = rens o w (ts.take i) ++ [t.ren o w]
  | [], _, _, h => by simp at h
  | u :: ts, 0, t, h => by
    simp at h
    subst h
    simp [rens]
  | u :: ts, i + 1, t, h => by
    have ih := rens_take o w ts i t (by simpa using h)
    simp only [List.take_succ_cons, rens]
    rw [ih]
    rfl
theorem rens_len (o w : Str) : ∀ ts : List Tr, (rens o w ts).length = ts.length
  | [] => rfl
  | t :: ts => by simp [rens, rens_len o w ts]
theorem map_dup {f : Str → Str} {a b : Str} : ∀ {l : List Str}, a ∈ l → b ∈ l → a ≠ b → f a = f b → ¬ (l.map f).Nodup
  | [], h, _, _, _ => by cases h
  | x :: l, ha, hb, ne, e => fun nd => by
    rw [List.map_cons, List.nodup_cons] at nd
    rcases List.mem_cons.mp ha with h1 | h1
    · rcases List.mem_cons.mp hb with h2 | h2
      · exact ne (h1.trans h2.symm)
      · exact nd.1 (by rw [← h1, e]; exact List.mem_map.mpr ⟨b, h2, rfl⟩)
    · rcases List.mem_cons.mp hb with h2 | h2
      · exact nd.1 (by rw [← h2, ← e]; exact List.mem_map.mpr ⟨a, h1, rfl⟩)
      · exact map_dup h1 h2 ne e nd.2
theorem map_inj {f : Str → Str} : ∀ {l : List Str}, (∀ a ∈ l, ∀ b ∈ l, f a = f b → a = b) → l.Nodup → (l.map f).Nodup
  | [], _, _ => by simp
  | x :: l, h, nd => by
    rw [List.nodup_cons] at nd
    rw [List.map_cons, List.nodup_cons]
    refine ⟨fun z => ?_, map_inj (fun a ha b hb => h a (List.mem_cons_of_mem _ ha) b (List.mem_cons_of_mem _ hb)) nd.2⟩
    obtain ⟨y, h1, h2⟩ := List.mem_map.mp z
    have := h y (List.mem_cons_of_mem _ h1) x (List.mem_cons_self ..) h2
    subst this
    exact nd.1 h1
theorem ren_out {o w : Str} {l : List Str} (hw : w ∉ l) (nd : l.Nodup) : (l.map fun n => if n = o then w else n).Nodup := by
  refine map_inj (fun a ha b hb e => ?_) nd
  by_cases h1 : a = o
  · by_cases h2 : b = o
    · rw [h1, h2]
    · rw [if_pos h1, if_neg h2] at e
      exact absurd (e ▸ hb) hw
  · by_cases h2 : b = o
    · rw [if_neg h1, if_pos h2] at e
      exact absurd (e ▸ ha) hw
    · rw [if_neg h1, if_neg h2] at e
      exact e
theorem ren_two {o w : Str} {l : List Str} (ho : o ∈ l) (hw : w ∈ l) (nd : l.Nodup) : (l.map fun n => if n = o then w else n).Nodup ↔ o = w := by
  constructor
  · intro h
    by_cases e : o = w
    · exact e
    · exact absurd h (map_dup (f := fun n => if n = o then w else n) ho hw e (by
        show (if o = o then w else o) = (if w = o then w else w)
        rw [if_pos rfl]
        split <;> rfl))
  · intro e
    subst e
    have : (l.map fun n => if n = o then o else n) = l := by
      have : (fun n : Str => if n = o then o else n) = id := by
        funext n
        by_cases h : n = o
        · rw [if_pos h, h]; rfl
        · rw [if_neg h]; rfl
      rw [this, List.map_id]
    rw [this]
    exact nd
/-! ### a tree is a plan where its names are unlike -/
theorem alpha_in (c : Nat) : c ∈ ("abcdefghijklmnopqrstuvwxyz" : Str).cps.toList ↔ 97 ≤ c ∧ c ≤ 122 := by
  have e : ("abcdefghijklmnopqrstuvwxyz" : Str).cps.toList = List.range' 97 26 := by decide +kernel
  rw [e, List.mem_range'_1]
  omega
theorem ok_nameB {s : Str} (h : nameOk s) : nameB s = true := by
  unfold nameB
  simp only [Bool.and_eq_true, decide_eq_true_eq, List.all_eq_true]
  exact ⟨⟨h.1, h.2.1⟩, fun c hc => (alpha_in c).mpr (h.2.2 c hc)⟩
mutual
theorem all_tree : ∀ t : Tr, t.ok → (∀ n ∈ t.nms, nameOk n) → allM t.dat = some t.nms
  | .hand n, _, h => by
    simp only [Tr.dat, Tr.nms, allM]
    rw [if_pos (ok_nameB (h n (by simp [Tr.nms])))]
  | .grp n b ms, ho, h => by
    simp only [Tr.ok] at ho
    have ih := alls_tree ms ho.2.2.2 (fun x hx => h x (by simp [Tr.nms, hx]))
    have hne : dats ms ≠ [] := by
      cases ms with
      | nil => exact absurd rfl ho.2.2.1
      | cons m ms => simp [dats]
    simp only [Tr.dat, Tr.nms, allM]
    rw [if_pos ⟨ho.1, hne, ok_nameB (h n (by simp [Tr.nms]))⟩, ih]
theorem alls_tree : ∀ ts : List Tr, oks ts → (∀ n ∈ nmss ts, nameOk n) → allMs (dats ts) = some (nmss ts)
  | [], _, _ => by simp [dats, allMs, nmss]
  | t :: ts, ho, h => by
    simp only [oks] at ho
    have h1 := all_tree t ho.1 (fun x hx => h x (by simp [nmss, hx]))
    have h2 := alls_tree ts ho.2 (fun x hx => h x (by simp [nmss, hx]))
    simp only [dats, allMs, nmss, h1, h2]
end
theorem plan_tree {n : Str} {b : Int} {ms : List Tr} (ho : (Tr.grp n b ms).ok) (h : ∀ x ∈ (Tr.grp n b ms).nms, nameOk x) : planB (Tr.grp n b ms).dat = decide (Tr.grp n b ms).nms.Nodup := by
  have e := all_tree _ ho h
  rw [plan_unique]
  have e2 : allG (Tr.grp n b ms).dat = some (Tr.grp n b ms).nms := by
    rw [← e]
    simp only [Tr.dat]
    rfl
  rw [e2]
  rfl
end NL

namespace NL
open PySem L2 Evl
/-! ### turns, and even plans, as trees -/
mutual
def Tr.hn : Tr → Nat
  | .hand _ => 1
  | .grp _ _ ms => hns ms
def hns : List Tr → Nat
  | [] => 0
  | t :: ts => t.hn + hns ts
end
mutual
theorem told_hn : ∀ (t : Tr) (p : List Str), ((t.told p).filter fun r => !r.2.1).length = t.hn
  | .hand n, p => by simp [Tr.told, Tr.hn]
  | .grp n b ms, p => by simp [Tr.told, Tr.hn, tolds_hn ms]
theorem tolds_hn : ∀ (ts : List Tr) (p : List Str), ((tolds ts p).filter fun r => !r.2.1).length = hns ts
  | [], p => by simp [tolds, hns]
  | t :: ts, p => by simp [tolds, hns, told_hn t, tolds_hn ts]
end
theorem hands_hn (t : Tr) : (handsOf t).length = t.hn := by
  unfold handsOf
  rw [List.length_map, told_hn]
mutual
def Tr.turn : Tr → Int
  | .hand _ => 1
  | .grp _ b ms => if hns ms = 1 then 1 else b * maxs ms
def maxs : List Tr → Int
  | [] => 0
  | t :: ts => max t.turn (maxs ts)
end
mutual
theorem turn_pos : ∀ t : Tr, t.ok → 1 ≤ t.turn
  | .hand _, _ => by simp [Tr.turn]
  | .grp n b ms, h => by
    simp only [Tr.ok] at h
    simp only [Tr.turn]
    split
    · decide
    · have := maxs_pos ms h.2.2.2 h.2.2.1
      have h1 : 1 * 1 ≤ b * maxs ms := Int.mul_le_mul h.1 this (by decide) (by omega)
      simpa using h1
theorem maxs_pos : ∀ ts : List Tr, oks ts → ts ≠ [] → 1 ≤ maxs ts
  | [], _, h => (h rfl).elim
  | t :: ts, h, _ => by
    have := turn_pos t h.1
    simp only [maxs]
    omega
end
theorem maxs_ge : ∀ {ts : List Tr}, ∀ t ∈ ts, t.turn ≤ maxs ts
  | u :: ts, t, h => by
    simp only [maxs]
    rcases List.mem_cons.mp h with rfl | h
    · omega
    · have := maxs_ge t h
      omega
theorem maxs_mem : ∀ {ts : List Tr}, oks ts → ts ≠ [] → ∃ t ∈ ts, t.turn = maxs ts
  | [t], h, _ => ⟨t, by simp, by
    have := turn_pos t h.1
    simp only [maxs]
    omega⟩
  | t :: u :: ts, h, _ => by
    obtain ⟨x, hx, e⟩ := maxs_mem (ts := u :: ts) h.2 (List.cons_ne_nil _ _)
    by_cases c : t.turn ≤ maxs (u :: ts)
    · refine ⟨x, List.mem_cons_of_mem _ hx, ?_⟩
      rw [e]
      simp only [maxs] at c ⊢
      omega
    · refine ⟨t, List.mem_cons_self .., ?_⟩
      simp only [maxs] at c ⊢
      omega
/-- all have one turn -/
def alike (ts : List Tr) : Bool := decide (∀ a ∈ ts.map Tr.turn, ∀ b ∈ ts.map Tr.turn, a = b)
mutual
def Tr.level : Tr → Bool
  | .hand _ => true
  | .grp _ _ ms => alike ms && levels ms
def levels : List Tr → Bool
  | [] => true
  | t :: ts => t.level && levels ts
end
theorem levels_all : ∀ ts : List Tr, levels ts = ts.all Tr.level
  | [] => rfl
  | t :: ts => by simp only [levels, List.all_cons, levels_all ts]
def turnsV (ts : List Tr) : List V := (ts.map Tr.turn).map V.int
section
variable {K : PySem.W.Frag} {σ : L2.St} {H : Hp} {ta : TE} {ns : List Int}
theorem maxK {X : Cx} (h : X.K = K) (hc : X.calm = true) : CallR X (.builtin "max") (rMax K) := by subst h; exact cr_max hc
theorem minK {X : Cx} (h : X.K = K) (hc : X.calm = true) : CallR X (.builtin "min") (rMin K) := by subst h; exact cr_min hc
theorem ev_maxN {m : Int} (h : EvL ta σ H (ns.map V.int)) (hm : m ∈ ns) (hle : ∀ y ∈ ns, y ≤ m) : Ev (tCB (rMax K) (tCons ta tNil)) σ H (.int m) := fun H1 e Q q =>
  h H1 e _ fun p H2 hp e2 h2 => ⟨p, ns, rfl, sq_of h2, List.length_pos_of_mem hm, fun x hx hx2 => by
    have : x = m := by
      have := hle x hx
      have := hx2 m hm
      omega
    rw [this]
    exact q H2 e2⟩
theorem ev_maxV {m : Int} {a : Addr} (h : Ev ta σ H (.ref a)) (ha : H a = some (.lst (ns.map V.int))) (hm : m ∈ ns) (hle : ∀ y ∈ ns, y ≤ m) : Ev (tCB (rMax K) (tCons ta tNil)) σ H (.int m) := fun H1 e Q q =>
  h H1 e _ fun H2 e2 => ⟨a, ns, rfl, sq_of ((e.trans e2) _ _ ha), List.length_pos_of_mem hm, fun x hx hx2 => by
    have : x = m := by
      have := hle x hx
      have := hx2 m hm
      omega
    rw [this]
    exact q H2 e2⟩
theorem ev_minV {m : Int} {a : Addr} (h : Ev ta σ H (.ref a)) (ha : H a = some (.lst (ns.map V.int))) (hm : m ∈ ns) (hle : ∀ y ∈ ns, m ≤ y) : Ev (tCB (rMin K) (tCons ta tNil)) σ H (.int m) := fun H1 e Q q =>
  h H1 e _ fun H2 e2 => ⟨a, ns, rfl, sq_of ((e.trans e2) _ _ ha), List.length_pos_of_mem hm, fun x hx hx2 => by
    have : x = m := by
      have := hle x hx
      have := hx2 m hm
      omega
    rw [this]
    exact q H2 e2⟩
end
theorem max_in {ts : List Tr} (h : oks ts) (hn : ts ≠ []) : maxs ts ∈ ts.map Tr.turn := by
  obtain ⟨t, ht, e⟩ := maxs_mem h hn
  exact List.mem_map.mpr ⟨t, ht, e⟩
theorem max_le {ts : List Tr} : ∀ y ∈ ts.map Tr.turn, y ≤ maxs ts := fun y hy => by
  obtain ⟨t, ht, rfl⟩ := List.mem_map.mp hy
  exact maxs_ge t ht
theorem least : ∀ {ns : List Int}, ns ≠ [] → ∃ m ∈ ns, ∀ y ∈ ns, m ≤ y
  | [n], _ => ⟨n, by simp, fun y hy => by rw [List.mem_singleton.mp hy]; exact Int.le_refl _⟩
  | n :: k :: ns, _ => by
    obtain ⟨m, hm, hl⟩ := least (ns := k :: ns) (List.cons_ne_nil _ _)
    by_cases c : n ≤ m
    · refine ⟨n, by simp, fun y hy => ?_⟩
      rcases List.mem_cons.mp hy with rfl | hy
      · exact Int.le_refl _
      · exact Int.le_trans c (hl y hy)
    · refine ⟨m, List.mem_cons_of_mem _ hm, fun y hy => ?_⟩
      rcases List.mem_cons.mp hy with rfl | hy
      · omega
      · exact hl y hy
theorem oks_get : ∀ {ts : List Tr} {i : Nat} {t : Tr}, oks ts → ts[i]? = some t → t.ok
  | t :: ts, 0, u, h, e => by cases e; exact h.1
  | t :: ts, i + 1, u, h, e => oks_get h.2 (by simpa using e)
theorem map_range {α : Type} (f : Tr → α) (ts : List Tr) : (List.range ts.length).map (fun i => f (ts.getD i (.hand ""))) = ts.map f := by
  apply List.ext_getElem
  · simp
  · intro i h1 h2
    have h3 : i < ts.length := by simpa using h2
    simp [List.getD_eq_getElem?_getD, h3]
end NL

/-! terms that tell some tuple of known things -/
namespace NL
open PySem L2 Evl
def EvS (K : PySem.W.Frag) (te : TE) (σ : L2.St) (H : Hp) (xs : List V) : Prop := ∀ H1, Ex H H1 → ∀ Q : VK, (∀ p H2, Ex H1 H2 → SqT K H2 p xs → Q (.ref p) H2) → te σ H1 Q
section
variable {K : PySem.W.Frag} {σ : L2.St} {H H' : Hp} {te ta tb : TE} {xs ys : List V}
theorem EvS.mono (e : Ex H H') (h : EvS K te σ H xs) : EvS K te σ H' xs := fun H1 a Q q => h H1 (e.trans a) Q q
theorem es_is (h : EvS K te σ H xs) (e : xs = ys) : EvS K te σ H ys := by
  subst e
  exact h
theorem es_ev {p : Addr} (h : Ev te σ H (.ref p)) (hs : SqT K H p xs) : EvS K te σ H xs := fun H1 e Q q => h H1 e _ fun H2 e2 => q p H2 e2 (ex_t (e.trans e2) hs)
theorem es_var {i : Nat} {p : Addr} (h : σ[i]? = some (some (.ref p))) (hs : SqT K H p xs) : EvS K (tVar i) σ H xs := es_ev (ev_var h) hs
theorem es_tup {tas : TA} (h : EvA tas σ H xs) (hl : xs.length ≤ 100000) : EvS K (tTup tas) σ H xs := fun H1 e Q q => h H1 e _ fun H2 e2 => ⟨sz_of hl, fun p hp => q p _ (e2.trans (Ex.new hp)) (st_of upd_same)⟩
theorem es_cat (ha : EvS K ta σ H xs) (hb : EvS K tb σ H ys) (hl : xs.length + ys.length ≤ 100000) : EvS K (tOp (rCatA K) ta tb) σ H (xs ++ ys) := fun H1 e Q q =>
  ha H1 e _ fun a H2 e2 sa => hb H2 (e.trans e2) _ fun b H3 e3 sb => by
    have sa3 := ex_t e3 sa
    refine ⟨a, b, xs, ys, rfl, rfl, sa3, sb, sz_of hl, fun z => ?_, fun _ z => ?_, fun _ _ p hp => ?_⟩
    · subst z
      exact q b H3 (e2.trans e3) sb
    · subst z
      exact q a H3 (e2.trans e3) (by rw [List.append_nil]; exact sa3)
    · exact q p _ ((e2.trans e3).trans (Ex.new hp)) (st_of upd_same)
theorem es_sl {tl th : TO} {lo hi : Option Int} (ha : EvS K te σ H xs) (h1 : EvO tl σ H lo) (h2 : EvO th σ H hi) : EvS K (tSl (rSlA K) te tl th) σ H (cutV xs lo hi) := fun H1 e Q q =>
  ha H1 e _ fun a H2 e2 sa => h1 H2 (e.trans e2) _ fun H3 e3 => h2 H3 ((e.trans e2).trans e3) _ fun H4 e4 => by
    have sa4 := ex_t (e3.trans e4) sa
    refine ⟨a, xs, rfl, sa4, fun z => ?_, fun _ p hp => ?_⟩
    · have ec : cutV xs lo hi = xs := by
        unfold cutV
        rw [z.1, z.2]
        simp
      rw [ec] at q
      exact q a H4 ((e2.trans e3).trans e4) sa4
    · exact q p _ (((e2.trans e3).trans e4).trans (Ex.new hp)) (st_of upd_same)
theorem ev_ixS {i : Int} {v : V} (ha : EvS K te σ H xs) (hb : Ev tb σ H (.int i)) (hi : atI xs i = some v) : Ev (tOp (rIxT K) te tb) σ H v := fun H1 e Q q =>
  ha H1 e _ fun a H2 e2 sa => hb H2 (e.trans e2) _ fun H3 e3 => ⟨a, xs, i, v, rfl, rfl, ex_t e3 sa, hi, q H3 (e2.trans e3)⟩
theorem ev_lenE (ha : EvS K te σ H xs) : Ev (tCB (rLenS K) (tCons te tNil)) σ H (.int (xs.length : Int)) := fun H1 e Q q =>
  ha H1 e _ fun a H2 e2 sa => ⟨a, xs, rfl, Or.inr sa, q H2 e2⟩
end
/-! ### tuples of names against one another -/
theorem eqv_strs : ∀ xs ys : List Str, PyData.eqvAll (xs.map PyData.str) (ys.map PyData.str) = decide (xs = ys)
  | [], [] => by simp [PyData.eqvAll]
  | [], y :: ys => by simp [PyData.eqvAll]
  | x :: xs, [] => by simp [PyData.eqvAll]
  | x :: xs, y :: ys => by
    simp only [List.map_cons, PyData.eqvAll, PyData.eqv, eqv_strs xs ys]
    rw [Bool.eq_iff_iff]
    simp
theorem shaped_strs {xs : List Str} (h : ∀ n ∈ xs, nameOk n) : SeqAt.shaped (.tuple (xs.map PyData.str)) = true := by
  obtain ⟨a, b⟩ := lay_strs h
  have c : PyData.canLay0 (.tuple (xs.map PyData.str)) = true := by
    simp only [PyData.canLay0]
    exact a
  have d : PyData.depth (.tuple (xs.map PyData.str)) ≤ 64 := by
    simp only [PyData.depth]
    omega
  unfold SeqAt.shaped
  rw [c, decide_eq_true d]
  rfl
section
variable {K : PySem.W.Frag} {σ : L2.St} {H : Hp} {te ta tb : TE} {xs ys : List Str}
theorem ev_eqS (ha : EvS K ta σ H (xs.map V.str)) (hb : EvS K tb σ H (ys.map V.str)) (hx : ∀ n ∈ xs, nameOk n) (hy : ∀ n ∈ ys, nameOk n) : Ev (tOp (rEqD K) ta tb) σ H (.bl (decide (xs = ys))) := fun H1 e Q q =>
  ha H1 e _ fun a H2 e2 sa => hb H2 (e.trans e2) _ fun b H3 e3 sb => by
    refine ⟨.tuple (xs.map PyData.str), .tuple (ys.map PyData.str), .tup (ex_t e3 sa) (dpa_strs xs), .tup sb (dpa_strs ys), shaped_strs hx, shaped_strs hy, ?_⟩
    have e4 : PyData.eqv (.tuple (xs.map PyData.str)) (.tuple (ys.map PyData.str)) = decide (xs = ys) := by
      simp only [PyData.eqv]
      exact eqv_strs xs ys
    rw [e4]
    exact q H3 (e2.trans e3)
theorem ev_neS (ha : EvS K ta σ H (xs.map V.str)) (hb : EvS K tb σ H (ys.map V.str)) (hx : ∀ n ∈ xs, nameOk n) (hy : ∀ n ∈ ys, nameOk n) : Ev (tOp (rNeD K) ta tb) σ H (.bl (!decide (xs = ys))) := fun H1 e Q q =>
  ha H1 e _ fun a H2 e2 sa => hb H2 (e.trans e2) _ fun b H3 e3 sb => by
    refine ⟨.tuple (xs.map PyData.str), .tuple (ys.map PyData.str), .tup (ex_t e3 sa) (dpa_strs xs), .tup sb (dpa_strs ys), shaped_strs hx, shaped_strs hy, ?_⟩
    have e4 : PyData.eqv (.tuple (xs.map PyData.str)) (.tuple (ys.map PyData.str)) = decide (xs = ys) := by
      simp only [PyData.eqv]
      exact eqv_strs xs ys
    rw [e4]
    exact q H3 (e2.trans e3)
end
section
variable {K : PySem.W.Frag} {σ : L2.St} {H : Hp} {te ta tb : TE} {xs : List V}
/-- a comprehension over some tuple of known things -/
theorem el_lcE {tl : TE} {tt : TT} {j : Nat} {vs : List Nat} (f : Nat → Bool) (g : Nat → V) (src : EvS K tl σ H xs) (few : xs.length ≤ 40000) (clean : ∀ x, wipe ((wipe σ vs).set j (some x)) vs = wipe σ vs)
    (test : ∀ (i : Nat) (x : V) H1, Ex H H1 → xs[i]? = some x → EvT tt ((wipe σ vs).set j (some x)) H1 (f i)) (give : ∀ (i : Nat) (x : V) H1, Ex H H1 → xs[i]? = some x → f i = true → Ev te ((wipe σ vs).set j (some x)) H1 (g i)) :
    EvL (tLc (iTup K tl) (gName j) tt te vs) σ H (given xs.length f g) := by
  intro H0 e0 Q next
  refine src H0 e0 _ fun a H1 e1 held => ?_
  have e01 : Ex H H1 := e0.trans e1
  refine ⟨a, rfl, ⟨xs, held⟩, fun made fresh => ?_⟩
  refine lc_tup (xs := xs) (Cw H1 f g made) ⟨fresh, Ex.new fresh, upd_same⟩ ?stays ?turn ?done
  case stays =>
    intro i H' _ inv
    exact ex_t inv.2.1 held
  case turn =>
    intro i x H' at_i inv
    have small : i < 50000 := by
      have := (List.getElem?_eq_some_iff.mp at_i).1
      omega
    exact ⟨clean x, cw_turn inv small (test i x H1 e01 at_i) (give i x H1 e01 at_i)⟩
  case done =>
    intro H' inv
    exact next made H' (fresh_back e1 inv.1) (e1.trans inv.2.1) inv.2.2
theorem q_asgS {i : Nat} {tz : TS} {D : Ends} (h : EvS K te σ H xs) (k : ∀ p H1, Ex H H1 → SqT K H1 p xs → tz D (σ.set i (some (.ref p))) H1) : tSeq (tAsg te (gName i)) tz D σ H := h H (Ex.refl H) _ fun p H1 e s => k p H1 e s
theorem q_forS {tl : TE} {j : Nat} {tu tz : TS} {D : Ends} (h : EvS K tl σ H xs) (Pv : Hp → Nat → L2.St → Hp → Prop) (h0 : ∀ H1, Ex H H1 → Pv H1 0 σ H1) (hl : ∀ H1 i σ' H', Pv H1 i σ' H' → Ex H1 H')
    (hs : ∀ H1 i x σ' H', Ex H H1 → xs[i]? = some x → Pv H1 i σ' H' → tu { D with nx := Pv H1 (i + 1), ct := Pv H1 (i + 1), bk := tz D } (σ'.set j (some x)) H') (hd : ∀ H1 σ' H', Ex H H1 → Pv H1 xs.length σ' H' → tz D σ' H') : tSeq (tFor (iTup K tl) (gName j) tu) tz D σ H := by
  refine h H (Ex.refl H) _ fun p H1 e sp => ?_
  exact ⟨p, rfl, ⟨xs, sp⟩, for_tup (Pv H1) (h0 H1 e) (fun i σ' H' _ hP => ex_t (hl H1 i σ' H' hP) sp) (fun i x σ' H' hx hP => hs H1 i x σ' H' e hx hP) (fun σ' H' hP => hd H1 σ' H' e hP)⟩
theorem ev_anyN {bs : List Bool} (ha : EvL ta σ H (bs.map V.bl)) : Ev (tCB (rAny K) (tCons ta tNil)) σ H (.bl (bs.any id)) := fun H1 e Q q =>
  ha H1 e _ fun p H2 _ e2 h2 => ⟨p, bs, rfl, sq_of h2, q H2 e2⟩
theorem anyK {X : Cx} (h : X.K = K) (hc : X.calm = true) : CallR X (.builtin "any") (rAny K) := by subst h; exact cr_any hc
end
theorem sqt_hand {K : PySem.W.Frag} {H H' : Hp} {h l a : Addr} {xs : List V} (A : Hand H h l) (k : Kp h l H H') (s : SqT K H a xs) : SqT K H' a xs := by
  rcases s with (s | ⟨o, s⟩) | s
  · obtain ⟨n, m⟩ := A.off s (fun _ z => by cases z)
    exact Or.inl (Or.inl (k a _ n m s))
  · obtain ⟨n, m⟩ := A.off s (fun _ z => by cases z)
    exact Or.inl (Or.inr ⟨o, k a _ n m s⟩)
  · exact Or.inr s
end NL

/-! plans as data that weigh so much -/
namespace NL
open PySem L2 Evl
section
variable {K : PySem.W.Frag}
mutual
theorem trv_dy {H : Hp} : ∀ (t : Tr) (v : V), TrV H v t → Dy K H v t.dat
  | .hand n, _, h => by cases h; simp only [Tr.dat]; exact .str n
  | .grp n b ms, _, h => by
    cases h with
    | grp h1 h2 h3 =>
      simp only [Tr.dat]
      exact .tup (st_of h1) (.cons (.str n) (.cons (.int b) (.cons (.tup (st_of h2) (trvs_dy ms _ h3)) .nil)))
theorem trvs_dy {H : Hp} : ∀ (ts : List Tr) (vs : List V), TrVs H vs ts → DyAll K H vs (dats ts)
  | [], _, h => by cases h; simp only [dats]; exact .nil
  | t :: ts, _, h => by
    cases h with
    | cons h1 h2 =>
      simp only [dats]
      exact .cons (trv_dy t _ h1) (trvs_dy ts _ h2)
end
end
theorem name_asc {n : Str} (h : nameOk n) : asc n := fun c hc => by
  have := h.2.2 c hc
  omega
mutual
theorem dat_wt : ∀ (t : Tr), (∀ n ∈ t.nms, nameOk n) → t.ok → wt t.dat ≤ 170 * t.size ∧ nodes t.dat ≤ 4 * t.size ∧ t.dat.depth ≤ 2 * t.deep ∧ okD (2 ^ 27) t.dat
  | .hand n, h, _ => by
    have hn := h n (by simp [Tr.nms])
    have := hn.2.1
    simp only [Tr.dat, Tr.deep, Tr.size, wt, nodes, PyData.depth, okD]
    exact ⟨by omega, by omega, by omega, name_asc hn⟩
  | .grp n b ms, h, ho => by
    have hn := h n (by simp [Tr.nms])
    have := hn.2.1
    simp only [Tr.ok] at ho
    obtain ⟨b1, b2, _, ho⟩ := ho
    obtain ⟨i1, i2, i3, i4⟩ := dats_wt ms (fun m hm => h m (by simp [Tr.nms, hm])) ho
    simp only [Tr.dat, Tr.deep, Tr.size, wt, wts, nodes, nodess, PyData.depth, PyData.depthAll, okD, okDs]
    exact ⟨by omega, by omega, by omega, name_asc hn, by omega, i4, trivial⟩
theorem dats_wt : ∀ (ts : List Tr), (∀ n ∈ nmss ts, nameOk n) → oks ts → wts (dats ts) ≤ 170 * sizes ts ∧ nodess (dats ts) ≤ 4 * sizes ts ∧ PyData.depthAll (dats ts) ≤ 2 * deeps ts ∧ okDs (2 ^ 27) (dats ts)
  | [], _, _ => by simp [dats, wts, nodess, PyData.depthAll, okDs]
  | t :: ts, h, ho => by
    simp only [oks] at ho
    obtain ⟨i1, i2, i3, i4⟩ := dat_wt t (fun m hm => h m (by simp [nmss, hm])) ho.1
    obtain ⟨j1, j2, j3, j4⟩ := dats_wt ts (fun m hm => h m (by simp [nmss, hm])) ho.2
    simp only [dats, wts, nodess, PyData.depthAll, okDs, sizes, deeps]
    exact ⟨by omega, by omega, by omega, i4, j4⟩
end
theorem tk_aside {H : Hp} {h l : Addr} (A : Hand H h l) : TK H (aside H [h, l]) := fun a xs e => by
  obtain ⟨n1, n2⟩ := A.off e (fun _ z => by cases z)
  rw [aside_at (off_hl n1 n2)]
  exact e
theorem tree_dx {K : PySem.W.Frag} {H : Hp} {v : V} {t : Tr} (h : TrV H v t) : Dx K H v t.dat := dx_dp _ _ (trv_dp t v h)
theorem tree_fits {t : Tr} (h : ∀ n ∈ t.nms, nameOk n) (ho : t.ok) (hs : t.size ≤ 200) (hd : t.deep ≤ 12) : shorts t.dat ∧ t.dat.depth ≤ 30 ∧ nodes t.dat ≤ 4000 := by
  obtain ⟨h1, h2, h3, h4⟩ := dat_wt t h ho
  exact ⟨shorts_wt (W := 10000000) (by decide) _ (by omega), by omega, by omega⟩
end NL

/-! enumerate of a tuple -/
namespace NL
open PySem PySem.Spec PyProof.Rows L2 Evl
abbrev tupIt (l : Addr) : Obj := { cls := .type "tuple_iterator", data := .fields #[.ref l, .int 0 0] }
abbrev enumOb (it : Addr) : Obj := { cls := .type "enumerate", data := .fields #[.none, .bool false, .ref it, rawInt 0, .none, .none] }
theorem made_enumT (l : Addr) (its : Array Value) (m : Nat) (dc : Option Addr) (so : Array (Option Value)) :
    Meets (Builtin.«enumerate.__new__» ⟨[.type "enumerate", .ref l], []⟩) (fun _ Rs st => st.heap.get? l = some { cls := .type "tuple", dict := dc, data := .seq its m, slots := so } ∧
      Rs (.ok (.ret (.ref (st.heap.push (tupIt l)).objs.size))) { st with heap := (st.heap.push (tupIt l)).push (enumOb st.heap.objs.size) }) :=
  .of_wp fun pr wd Ar Rs st told => by
    obtain ⟨hp, gn, dr, tk, os⟩ := st
    obtain ⟨at_l, told⟩ := told
    have under := sub_enumerate
    have isT : Heap.IsTuple (Shared.heap ⟨hp, gn, dr, tk, os⟩) l its := ⟨_, at_l, rfl, m, rfl⟩
    wp_walk using AutoSeq1.wpAny_loadPart' at_l
    refine wpAny_stack_any fun _ => wpAny_pure ?_
    split
    · rename_i cl _ _ _ _ _
      cases (cl == Value.type "enumerate")
      all_goals
        wp_walk using AutoSeq1.wpAny_loadPart' at_l, wpAny_pyIter_tuple isT
        exact ⟨_, rfl, told⟩
    · wp_walk using AutoSeq1.wpAny_loadPart' at_l, wpAny_pyIter_tuple isT
      exact ⟨_, rfl, told⟩
section
variable {P : Program} {w : World} {A : Around} {E : Value → Shared → Prop} {s : Shared}
theorem call_enumT {l : Addr} {its : Array Value} {Q : Value → Shared → Prop} (isT : s.heap.IsTuple l its)
    (told : ∀ h2, IsEnum h2 (s.heap.objs.size + 1) s.heap.objs.size 0 .none → h2.IsTupleIter s.heap.objs.size l 0 → (∀ b o, s.heap.get? b = some o → h2.get? b = some o) → Q (.ref (s.heap.objs.size + 1)) { s with heap := h2 }) :
    wpAny (model P w) A (call (.type "enumerate") [.ref l]) Q E s := by
  obtain ⟨⟨cl, dc, dt, so⟩, at_l, ecl, m, edt⟩ := isT
  replace ecl : cl = .type "tuple" := ecl
  replace edt : dt = .seq its m := edt
  subst ecl edt
  refine callType_new F.called_enumerate (by decide) (F.typeCall_enumerate_1 _) (F.newCall_enumerate_1 _) (fun ob => F.args_object_init_2 ob _) F.entry_enumerate_new (made_enumT l its m dc so) ⟨at_l, ?_⟩
  have sz : (s.heap.push (tupIt l)).objs.size = s.heap.objs.size + 1 := Heap.size_push ..
  show _ ∧ _
  rw [sz]
  have en : IsEnum ((s.heap.push (tupIt l)).push (enumOb s.heap.objs.size)) (s.heap.objs.size + 1) s.heap.objs.size 0 .none := by
    have got := Heap.get?_push_size (s.heap.push (tupIt l)) (o := enumOb s.heap.objs.size) rfl
    rw [sz] at got
    exact got
  exact ⟨⟨_, en, rfl⟩, told _ en ⟨_, Heap.get?_push_of_some _ (Heap.get?_push_size _ rfl), rfl, rfl⟩ fun b o q => Heap.get?_push_of_some _ (Heap.get?_push_of_some _ q)⟩
end
section
variable {P : Program} {w : World} {A : Around} {E : Value → Shared → Prop} {s : Shared}
theorem enum_stop {e it a : Addr} {i : Nat} {its : Array Value} {old : Value} {Q : Option Value → Shared → Prop} (calm : A.handled = none) (en : IsEnum s.heap e it i old) (ti : s.heap.IsTupleIter it a i) (isT : s.heap.IsTuple a its) (hx : its[i]? = none)
    (told : ∀ h2, Heap.ExtBut it s.heap h2 → Q none { s with heap := h2 }) : wpAny (model P w) A (pyNext (.ref e)) Q E s := by
  have ty : s.TypeIs (.ref e) "enumerate" := ⟨_, en, rfl⟩
  unfold pyNext
  refine wpAny_bind (wpAny_attempt (wpAny_callSpecial?_slot (name := Str.ofString "__next__") ty F.slot_enumerate_next (wpAny_call_entry F.slot_enumerate_next ty F.entry_enumerate_next ?_ (F.args_enumerate_next_1 _))))
  change wpAny _ _ (field (.ref e) 2 >>= _) _ _ _
  refine wpAny_bind (wpAny_field en rfl (x := .ref it) rfl (wpAny_bind (wpAny_nextOf_tuple_end (by simp [calm]) ti isT hx fun h2 x ext stop => ?_)))
  obtain ⟨o, ho, oc⟩ := stop
  exact wpAny_bind (wpAny_isInstance (T := "StopIteration") (b := true) ⟨o, ho, oc⟩ isSubtype_stop (wpAny_pure (told _ ext)))
end
/-- the tuple at a, each item in a new pair with its number -/
def ItU (K : PySem.W.Frag) (a : Addr) : It :=
  ⟨fun i H => ∃ (xs : List V) (x : V), SqT K H a xs ∧ xs[i]? = some x,
    fun i H v H' => ∃ T x, v = .ref T ∧ H T = none ∧ H' = upd H T (.tup [.int (i : Nat), x]) ∧ ∀ xs, SqT K H a xs → xs[i]? = some x,
    fun i H => ∃ xs : List V, SqT K H a xs ∧ xs.length ≤ i⟩
theorem apart_ty {h : Heap} {a b : Addr} {o u : Obj} (ha : h.get? a = some o) (hb : h.get? b = some u) (ne : o.cls ≠ u.cls) : a ≠ b := fun z => by
  subst z
  rw [ha] at hb
  cases hb
  exact ne rfl
theorem turn_enumT {P : Program} {w : World} {K : PySem.W.Frag} {elts : List Expr} {kk : Nat} {tpos : Pos} (a e it : Addr) :
    Turn P w K (.Tuple elts kk tpos) (ItU K a) [e, it] e (fun i h => (∃ old, IsEnum h e it ((i : Nat) : Int) old) ∧ h.IsTupleIter it a i ∧ e ≠ it) where
  mem := by simp
  obj := fun i h st b hb => by
    obtain ⟨⟨old, en⟩, ⟨o, ho, hc, hd⟩, _⟩ := st
    have two : b = e ∨ b = it := by simpa using hb
    rcases two with rfl | rfl
    · exact ⟨_, en, fun v q => nomatch q⟩
    · exact ⟨o, ho, fun v q => by rw [hd] at q; cases q⟩
  keep := fun i h h2 st k => let ⟨⟨old, en⟩, ti, ne⟩ := st; ⟨⟨old, k e (by simp) _ en⟩, ti.at fun o q => k it (by simp) o q, ne⟩
  item := by
    intro X hP hw hK hc i pins s σ H E I hf st hg
    subst hP hw hK
    obtain ⟨⟨old, en⟩, ti, ne⟩ := st
    obtain ⟨xs, x, hq, hx⟩ := hg
    obtain ⟨its, rv, p, hz⟩ := I.tuple hq
    obtain ⟨u, hu, ru⟩ := rv.get hx
    have le : e < s.heap.objs.size := Heap.lt_size en
    have li : it < s.heap.objs.size := by
      obtain ⟨_, z, _⟩ := ti
      exact Heap.lt_size z
    have isT : s.heap.IsTuple a its.toArray := p
    have ai : a ≠ it := by
      obtain ⟨o1, g1, c1, _⟩ := isT
      obtain ⟨o2, g2, c2, _⟩ := ti
      exact apart_ty g1 g2 (by rw [c1, c2]; decide)
    have ae : e ≠ a := by
      obtain ⟨o1, g1, c1, _⟩ := isT
      exact apart_ty en g1 (by rw [c1]; exact (by decide : Value.type "enumerate" ≠ Value.type "tuple"))
    have lt : i < its.toArray.size := by
      have := (List.getElem?_eq_some_iff.mp hu).1
      simpa using this
    have calm : X.A.handled = none := I.ok.hd hc
    refine wpAny_pyNext_enum_itemD (Draws.tuple (A := X.A.in1) (by simp [calm]) it a ai its.toArray) en ⟨ti, isT⟩ lt ne (by simp [ne, ae]) fun y h2 tk hy ho st2 hT hsz hk => ?_
    have ey : y = u := by
      have h1 : its.toArray[i]? = some u := by simpa using hu
      rw [h1] at hy
      exact (Option.some.inj hy).symm
    subst ey
    refine ⟨_, rfl, wpAny_letOwnedTupleGo_enum (s := { s with heap := h2, toks := tk + 1 }) ho fun h3 en3 sb => ?_⟩
    have at3 : h3.get? s.heap.objs.size = some { cls := .type "tuple", data := .seq #[.int i tk, y] } := (sb.2 _ (Nat.ne_of_gt le)).trans hT
    have made : ObjOk X.prog X.w (upd H s.heap.objs.size (.tup [.int (i : Nat), x])) h3 s.heap.objs.size (.tup [.int (i : Nat), x]) :=
      ⟨by show 2 ≤ sizeLine; decide, [.int i tk, y], .cons ⟨_, rfl⟩ (.cons ru .nil), ⟨_, at3, rfl, _, rfl⟩⟩
    have I1 : Inv X pins σ (upd H s.heap.objs.size (.tup [.int (i : Nat), x])) { s with heap := h3, toks := tk + 1 } :=
      I.turnedNew (ch := [e, it]) (fun b ob hb q => (sb.2 b (fun z => hb (by simp [z]))).trans (hk b ob (fun z => hb (by simp [z])) (fun z => hb (by simp [z])) q)) hf (Nat.le_refl _) made
    refine ⟨.ref s.heap.objs.size, _, I1, rfl, ⟨_, x, rfl, I.hok.fresh (Nat.le_refl _), rfl, fun ys hy => by rw [I.tuple_inj hy hq]; exact hx⟩, ⟨⟨y, ?_⟩, st2.1.at fun o q => (sb.2 it (Ne.symm ne)).trans q, ne⟩, fun b hb => ?_⟩
    · have e1 : ((i + 1 : Nat) : Int) = (i : Int) + 1 := by omega
      rw [e1]
      exact en3
    · have two : b = e ∨ b = it := by simpa using hb
      have lb : b < s.heap.objs.size := by
        rcases two with rfl | rfl
        · exact le
        · exact li
      rw [upd_ne (Nat.ne_of_lt lb)]
      exact (hf b hb).1
  done := by
    intro X hP hw hK hc i pins s σ H E I hf st hg
    subst hP hw hK
    obtain ⟨⟨old, en⟩, ti, ne⟩ := st
    obtain ⟨xs, hq, hx⟩ := hg
    obtain ⟨its, rv, p, hz⟩ := I.tuple hq
    obtain ⟨f0, f1, f2, f3, f4, f5⟩ := hf it (by simp)
    have many := rv.length
    have isT : s.heap.IsTuple a its.toArray := p
    have ai : a ≠ it := by
      obtain ⟨o1, g1, c1, _⟩ := isT
      obtain ⟨o2, g2, c2, _⟩ := ti
      exact apart_ty g1 g2 (by rw [c1, c2]; decide)
    have calm : X.A.handled = none := I.ok.hd hc
    exact enum_stop (calm := calm) en ti isT (by simp; omega) fun h2 eb => ⟨rfl, I.turned (t' := s.toks) (fun b o hb q => eb b o hb q) f0 f1 f3 f4 f5⟩
  self := fun A i s Q E st h => let ⟨⟨_, en⟩, _⟩ := st; wpAny_pyIter_enum en h
def iEnumT (K : PySem.W.Frag) (ta : TA) : TI := fun σ H R => ta σ H fun vs H1 => ∃ a xs, vs = [.ref a] ∧ SqT K H1 a xs ∧ R (ItU K a) H1
theorem pi_enumT {X : Cx} {e : Expr} {ta : TA} {p pos tpos : Pos} {elts : List Expr} {kk : Nat} (hg : Gl X "enumerate") (hm : X.mg "enumerate" = none) (ha : PA X [e] ta) (hs : starEach [e] X.env = [(false, eval e X.env)] := by rfl) :
    PI X (.Tuple elts kk tpos) (.Call (.Name "enumerate" p) [e] [] pos) (iEnumT X.K ta) := by
  constructor
  intro pins s σ H R I told
  refine Call_ (ld_blt I hg hm boot_enumerate (PyProof.Rows.callWith_type1 (thn (ha.run pos pins s σ H _ I told) fun us s1 got => ?_) hs rfl))
  obtain ⟨vs, H1, I1, r1, a, xs, ex, hq, q⟩ := got
  subst ex
  obtain ⟨u, eu, ru⟩ := vals1 r1
  subst eu
  cases ru
  obtain ⟨its, rv, p', hz⟩ := I1.tuple hq
  refine call_enumT (its := its.toArray) p' fun h2 en ti hk => wpAny_pyIter_enum en ?_
  have I2 : Inv X pins σ H1 { s1 with heap := h2 } := I1.kept (t' := s1.toks) hk
  refine ⟨s1.heap.objs.size + 1, [s1.heap.objs.size + 1, s1.heap.objs.size], _, _, H1, rfl, I2, turn_enumT a (s1.heap.objs.size + 1) s1.heap.objs.size, ⟨⟨.none, en⟩, ti, Nat.succ_ne_self _⟩, fun b hb => ?_, q⟩
  have two : b = s1.heap.objs.size + 1 ∨ b = s1.heap.objs.size := by simpa using hb
  have ge : s1.heap.objs.size ≤ b := by
    rcases two with rfl | rfl
    · exact Nat.le_succ _
    · exact Nat.le_refl _
  exact I1.fpOk ge (I1.hok.fresh ge)
theorem pi_enumTK {X : Cx} {K : PySem.W.Frag} (h : X.K = K) {e : Expr} {ta : TA} {p pos tpos : Pos} {elts : List Expr} {kk : Nat} (hg : Gl X "enumerate") (hm : X.mg "enumerate" = none) (ha : PA X [e] ta) (hs : starEach [e] X.env = [(false, eval e X.env)] := by rfl) :
    PI X (.Tuple elts kk tpos) (.Call (.Name "enumerate" p) [e] [] pos) (iEnumT K ta) := by subst h; exact pi_enumT hg hm ha hs
theorem walk_enumT {K : PySem.W.Frag} {a : Addr} {xs : List V} : Walk (ItU K a) xs.length (fun H => SqT K H a xs) (fun i H v H' => ∃ T x, v = .ref T ∧ H T = none ∧ H' = upd H T (.tup [.int (i : Nat), x]) ∧ xs[i]? = some x) where
  goes := fun i H lt g => ⟨xs, xs[i], g, List.getElem?_eq_getElem lt⟩
  stops := fun H g => ⟨xs, g, Nat.le_refl _⟩
  yields := fun i H x H' lt g y => by
    obtain ⟨T, z, h1, h2, h3, h4⟩ := y
    exact ⟨T, z, h1, h2, h3, h4 xs g⟩
end NL

/-! terms that make some datum and change nothing that is there; some addresses set aside -/
namespace NL
open PySem PySem.Spec PyProof.Rows L2 Evl
def Sin (S : List Addr) (H : Hp) : Prop := ∀ a ∈ S, H a ≠ none
theorem Sin.ex {S : List Addr} {H H' : Hp} (s : Sin S H) (e : Ex H H') : Sin S H' := fun a ha z => by
  cases h : H a with
  | none => exact s a ha h
  | some o =>
    rw [e a o h] at z
    cases z
theorem Sin.off {S : List Addr} {H : Hp} {p : Addr} (s : Sin S H) (hp : H p = none) : p ∉ S := fun h => s p h hp
theorem Sin.cons {S : List Addr} {H H' : Hp} {p : Addr} {o : HO} (s : Sin S H) (e : Ex H H') (hp : H' p = some o) : Sin (p :: S) H' := fun a ha => by
  rcases List.mem_cons.mp ha with rfl | ha
  · rw [hp]
    exact fun z => by cases z
  · exact s.ex e a ha
theorem aside_new {S : List Addr} {H : Hp} {p : Addr} {o : HO} (s : Sin S H) (hp : H p = none) : aside (upd H p o) S p = some o := by
  rw [aside_at (s.off hp)]
  exact upd_same
section
variable {K : PySem.W.Frag} {S : List Addr} {σ : L2.St} {H H' : Hp} {te tb : TE} {ta : TA} {W N D B W' N' D' B' n m : Nat}
def PV (K : PySem.W.Frag) (S : List Addr) (W N D B : Nat) (te : TE) (σ : L2.St) (H : Hp) : Prop := ∀ H1, Ex H H1 → ∀ Q : VK, (∀ v H2, Ex H1 H2 → G K (aside H2 S) v W N D B → Q v H2) → te σ H1 Q
def PAs (K : PySem.W.Frag) (S : List Addr) (n W N D B : Nat) (ta : TA) (σ : L2.St) (H : Hp) : Prop := ∀ H1, Ex H H1 → ∀ Q : List V → Hp → Prop, (∀ vs H2, Ex H1 H2 → vs.length = n → (∀ v ∈ vs, G K (aside H2 S) v W N D B) → Q vs H2) → ta σ H1 Q
def PTp (K : PySem.W.Frag) (S : List Addr) (W N D B : Nat) (te : TE) (σ : L2.St) (H : Hp) : Prop := ∀ H1, Ex H H1 → ∀ Q : VK, (∀ p xs H2, Ex H1 H2 → SqT K (aside H2 S) p xs → GL K (aside H2 S) xs W N D B → Q (.ref p) H2) → te σ H1 Q
/-- a list of at most n of them -/
def PLs (K : PySem.W.Frag) (S : List Addr) (n W N D B : Nat) (te : TE) (σ : L2.St) (H : Hp) : Prop := ∀ H1, Ex H H1 → ∀ Q : VK, (∀ p xs H2, Ex H1 H2 → H2 p = some (.lst xs) → p ∉ S → xs.length ≤ n → (∀ v ∈ xs, G K (aside H2 (p :: S)) v W N D B) → Q (.ref p) H2) → te σ H1 Q
/-- a new one -/
def PLn (K : PySem.W.Frag) (S : List Addr) (n W N D B : Nat) (te : TE) (σ : L2.St) (H : Hp) : Prop := ∀ H1, Ex H H1 → ∀ Q : VK, (∀ p xs H2, H1 p = none → Ex H1 H2 → H2 p = some (.lst xs) → p ∉ S → xs.length ≤ n → (∀ v ∈ xs, G K (aside H2 (p :: S)) v W N D B) → Q (.ref p) H2) → te σ H1 Q
theorem PLn.ls (g : PLn K S n W N D B te σ H) : PLs K S n W N D B te σ H := fun H1 e Q q => g H1 e Q fun p xs H2 _ => q p xs H2
theorem PV.mono (g : PV K S W N D B te σ H) (e : Ex H H') : PV K S W N D B te σ H' := fun H1 e1 Q q => g H1 (e.trans e1) Q q
theorem PV.up (g : PV K S W N D B te σ H) (hW : W ≤ W') (hN : N ≤ N') (hD : D ≤ D') (hB : B ≤ B') : PV K S W' N' D' B' te σ H := fun H1 e Q q => g H1 e Q fun v H2 e2 g2 => q v H2 e2 (g2.up hW hN hD hB)
theorem PTp.up (g : PTp K S W N D B te σ H) (hW : W ≤ W') (hN : N ≤ N') (hD : D ≤ D') (hB : B ≤ B') : PTp K S W' N' D' B' te σ H := fun H1 e Q q => g H1 e Q fun p xs H2 e2 s g2 => q p xs H2 e2 s (g2.up hW hN hD hB)
theorem PLs.up (g : PLs K S n W N D B te σ H) (hn : n ≤ m) (hW : W ≤ W') (hN : N ≤ N') (hD : D ≤ D') (hB : B ≤ B') : PLs K S m W' N' D' B' te σ H := fun H1 e Q q => g H1 e Q fun p xs H2 e2 h off l g2 => q p xs H2 e2 h off (by omega) fun v hv => (g2 v hv).up hW hN hD hB
theorem g_ex {v : V} (g : G K (aside H S) v W N D B) (e : Ex H H') : G K (aside H' S) v W N D B := g.mono (aside_e e)
theorem gl_ex {xs : List V} (g : GL K (aside H S) xs W N D B) (e : Ex H H') : GL K (aside H' S) xs W N D B := g.mono (aside_e e)
theorem t_ex {p : Addr} {xs : List V} (g : SqT K (aside H S) p xs) (e : Ex H H') : SqT K (aside H' S) p xs := ex_t (aside_e e) g
theorem pv_ev {v : V} (h : Ev te σ H v) (g : G K (aside H S) v W N D B) : PV K S W N D B te σ H := fun H1 e Q q => h H1 e Q fun H2 e2 => q v H2 e2 (g_ex g (e.trans e2))
theorem pv_var {i : Nat} {v : V} (e : σ[i]? = some (some v)) (g : G K (aside H S) v W N D B) : PV K S W N D B (tVar i) σ H := pv_ev (ev_var e) g
theorem pv_non (hW : 10 ≤ W) (hN : 1 ≤ N) : PV K S W N D B (tC .non) σ H := pv_ev ev_c ((G.non).up hW hN (Nat.zero_le _) (Nat.le_refl _))
theorem pv_bl {b : Bool} (hW : 10 ≤ W) (hN : 1 ≤ N) : PV K S W N D B (tC (.bl b)) σ H := pv_ev ev_c ((G.bl b).up hW hN (Nat.zero_le _) (Nat.le_refl _))
theorem pv_int {i : Int} (h : Ev te σ H (.int i)) (hi : i.natAbs ≤ B) (hW : 60 ≤ W) (hN : 1 ≤ N) : PV K S W N D B te σ H := pv_ev h ((G.int hi).up hW hN (Nat.zero_le _) (Nat.le_refl _))
theorem pv_str {z : Str} (h : Ev te σ H (.str z)) (az : asc z) (hW : 10 * z.length + 10 ≤ W) (hN : 1 ≤ N) : PV K S W N D B te σ H := pv_ev h ((G.str (n := 10 * z.length + 10) (Nat.le_refl _) az).up hW hN (Nat.zero_le _) (Nat.le_refl _))
theorem pv_lit {s : String} (ha : (s.toList.all fun c => decide (c.toNat < 128)) = true) (hl : s.length ≤ 50) (hW : 600 ≤ W) (hN : 1 ≤ N) : PV K S W N D B (tC (.str (Str.ofString s))) σ H := pv_str ev_c (asc_lit ha) (by rw [PySem.ofString_length]; omega) hN
theorem pas_nil : PAs K S 0 W N D B tNil σ H := fun H1 _ Q q => q [] H1 (Ex.refl H1) rfl (fun v z => by cases z)
theorem pas_cons (g : PV K S W N D B te σ H) (r : PAs K S n W N D B ta σ H) : PAs K S (n + 1) W N D B (tCons te ta) σ H := fun H1 e Q q =>
  g H1 e _ fun v H2 e2 g2 => r H2 (e.trans e2) _ fun vs H3 e3 hl hv => q (v :: vs) H3 (e2.trans e3) (by rw [List.length_cons, hl]) fun u hu => by
    rcases List.mem_cons.mp hu with rfl | hu
    · exact g_ex g2 e3
    · exact hv u hu
theorem pt_new (g : PAs K S n W N D B ta σ H) (hn : n ≤ 1000) (s : Sin S H) : PTp K S (n * W) (n * N) D B (tTup ta) σ H := fun H1 e Q q =>
  g H1 e _ fun vs H2 e2 hl hv => ⟨sz_of (by omega), fun p hp => by
    refine q p vs _ (e2.trans (Ex.new hp)) (st_of (aside_new (s.ex (e.trans e2)) hp)) ?_
    rw [← hl]
    exact gl_ex (gl_all hv) (Ex.new hp)⟩
theorem pv_pt (g : PTp K S W N D B te σ H) : PV K S (W + 10) (N + 1) (D + 1) B te σ H := fun H1 e Q q => g H1 e Q fun p xs H2 e2 s g2 => q _ H2 e2 (G.tup s g2)
theorem pv_t (g : PAs K S n W N D B ta σ H) (hn : n ≤ 1000) (s : Sin S H) (hW : n * W + 10 ≤ W') (hN : n * N + 1 ≤ N') (hD : D + 1 ≤ D') : PV K S W' N' D' B (tTup ta) σ H := (pv_pt (pt_new g hn s)).up hW hN hD (Nat.le_refl _)
theorem pv_three {i1 i2 i3 W1 W2 W3 N1 N2 N3 : Nat} {x1 x2 x3 : V} (s : Sin S H) (h1 : σ[i1]? = some (some x1)) (h2 : σ[i2]? = some (some x2)) (h3 : σ[i3]? = some (some x3)) (g1 : G K (aside H S) x1 W1 N1 D B) (g2 : G K (aside H S) x2 W2 N2 D B) (g3 : G K (aside H S) x3 W3 N3 D B)
    (hW : W1 + (W2 + (W3 + 0)) + 10 ≤ W') (hN : N1 + (N2 + (N3 + 0)) + 1 ≤ N') : PV K S W' N' (D + 1) B (tTup (tCons (tVar i1) (tCons (tVar i2) (tCons (tVar i3) tNil)))) σ H := fun H1 e Q q =>
  ⟨_, h1, _, h2, _, h3, sz_of (by simp), fun p hp => q _ _ (Ex.new hp) ((G.tup (st_of (aside_new (s.ex e) hp)) (GL.cons (g_ex g1 (e.trans (Ex.new hp))) (GL.cons (g_ex g2 (e.trans (Ex.new hp))) (GL.cons (g_ex g3 (e.trans (Ex.new hp))) (GL.nil (W := 0) (N := 0)))))).up hW hN (Nat.le_refl _) (Nat.le_refl _))⟩
theorem pt_ev {p : Addr} {xs : List V} (h : Ev te σ H (.ref p)) (s : SqT K (aside H S) p xs) (g : GL K (aside H S) xs W N D B) : PTp K S W N D B te σ H := fun H1 e Q q => h H1 e _ fun H2 e2 => q p xs H2 e2 (t_ex s (e.trans e2)) (gl_ex g (e.trans e2))
theorem pt_var {i : Nat} {p : Addr} {xs : List V} (e : σ[i]? = some (some (.ref p))) (s : SqT K (aside H S) p xs) (g : GL K (aside H S) xs W N D B) : PTp K S W N D B (tVar i) σ H := pt_ev (ev_var e) s g
theorem pt_cat (ga : PTp K S W N D B te σ H) (gb : PTp K S W' N' D B tb σ H) (hz : W + W' ≤ 1000000) (s : Sin S H) : PTp K S (W + W') (N + N') D B (tOp (rCatA K) te tb) σ H := fun H1 e Q q =>
  ga H1 e _ fun p xs H2 e2 s2 g2 => gb H2 (e.trans e2) _ fun p' ys H3 e3 s3 g3 => by
    have s2' := t_ex s2 e3
    have g2' := gl_ex g2 e3
    have l2 := g2'.len
    have l3 := g3.len
    refine ⟨p, p', xs, ys, rfl, rfl, ex_t (aside_sub _ _) s2', ex_t (aside_sub _ _) s3, sz_of (by omega), fun z => ?_, fun _ z => ?_, fun _ _ r hr => ?_⟩
    · exact q p' ys H3 (e2.trans e3) s3 (g3.up (by omega) (by omega) (Nat.le_refl _) (Nat.le_refl _))
    · exact q p xs H3 (e2.trans e3) s2' (g2'.up (by omega) (by omega) (Nat.le_refl _) (Nat.le_refl _))
    · exact q r _ _ ((e2.trans e3).trans (Ex.new hr)) (st_of (aside_new (s.ex ((e.trans e2).trans e3)) hr)) (gl_ex (g2'.app g3) (Ex.new hr))
theorem pt_sl {lo hi : Option Int} {tl th : TO} (g : PTp K S W N D B te σ H) (hl : EvO tl σ H lo) (hh : EvO th σ H hi) (s : Sin S H) : PTp K S W N D B (tSl (rSlA K) te tl th) σ H := fun H1 e Q q =>
  g H1 e _ fun p xs H2 e2 s2 g2 => hl H2 (e.trans e2) _ fun H3 e3 => hh H3 ((e.trans e2).trans e3) _ fun H4 e4 => by
    have s4 := t_ex s2 (e3.trans e4)
    have g4 := gl_ex g2 (e3.trans e4)
    refine ⟨p, xs, rfl, ex_t (aside_sub _ _) s4, fun _ => q p xs H4 ((e2.trans e3).trans e4) s4 g4, fun _ r hr => ?_⟩
    exact q r _ _ (((e2.trans e3).trans e4).trans (Ex.new hr)) (st_of (aside_new (s.ex (((e.trans e2).trans e3).trans e4)) hr)) (gl_ex (g4.cut lo hi) (Ex.new hr))
theorem pt_rev (g : PTp K S W N D B te σ H) (s : Sin S H) : PTp K S W N D B (tRevT K te) σ H := fun H1 e Q q =>
  g H1 e _ fun p xs H2 e2 s2 g2 => ⟨p, xs, rfl, ex_t (aside_sub _ _) s2, fun r hr => q r _ _ (e2.trans (Ex.new hr)) (st_of (aside_new (s.ex (e.trans e2)) hr)) (gl_ex g2.rev (Ex.new hr))⟩
theorem pv_listT (g : PTp K S W N D B te σ H) (s : Sin S H) : PV K S (W + 10) (N + 1) (D + 1) B (tCB (rListT K) (tCons te tNil)) σ H := fun H1 e Q q =>
  g H1 e _ fun p xs H2 e2 s2 g2 => ⟨p, xs, rfl, Or.inr (ex_t (aside_sub _ _) s2), fun r hr => q _ _ (e2.trans (Ex.new hr)) (G.lst (aside_new (s.ex (e.trans e2)) hr) (gl_ex g2 (Ex.new hr)))⟩
theorem pl_lst (g : PAs K S n W N D B ta σ H) (hn : n ≤ 1000) (s : Sin S H) : PLn K S n W N D B (tLst ta) σ H := fun H1 e Q q =>
  g H1 e _ fun vs H2 e2 hl hv => ⟨sz_of (by omega), fun p hp => q p vs _ (fresh_back e2 hp) (e2.trans (Ex.new hp)) upd_same ((s.ex (e.trans e2)).off hp) (by omega) fun v z => (hv v z).mono (aside_more hp (Ex.new hp))⟩
theorem pl_var {i : Nat} {p : Addr} {xs : List V} (e : σ[i]? = some (some (.ref p))) (hp : H p = some (.lst xs)) (off : p ∉ S) (hl : xs.length ≤ n) (g : ∀ v ∈ xs, G K (aside H (p :: S)) v W N D B) : PLs K S n W N D B (tVar i) σ H := fun H1 e1 Q q =>
  ⟨_, e, q p xs H1 (Ex.refl H1) (e1 _ _ hp) off hl fun v z => g_ex (g v z) e1⟩
theorem pl_cat (ga : PLs K S n W N D B te σ H) (gb : PLs K S m W N D B tb σ H) (hz : n + m ≤ 50000) (s : Sin S H) : PLn K S (n + m) W N D B (tOp rCat te tb) σ H := fun H1 e Q q =>
  ga H1 e _ fun p vs H2 e2 h2 _ l2 g2 => gb H2 (e.trans e2) _ fun p' us H3 e3 h3 _ l3 g3 => ⟨p, p', vs, us, rfl, rfl, e3 _ _ h2, h3, sz_of (by omega), fun r hr => by
    refine q r _ _ (fresh_back (e2.trans e3) hr) ((e2.trans e3).trans (Ex.new hr)) upd_same ((s.ex ((e.trans e2).trans e3)).off hr) (by rw [List.length_append]; omega) fun v z => ?_
    rcases List.mem_append.mp z with z | z
    · exact ((g_ex (g2 v z) e3).mono aside_less).mono (aside_more hr (Ex.new hr))
    · exact ((g3 v z).mono aside_less).mono (aside_more hr (Ex.new hr))⟩
/-- what a comprehension's list has by now -/
def LcW (K : PySem.W.Frag) (S : List Addr) (H : Hp) (d : Addr) (W N D B : Nat) (i : Nat) (H' : Hp) : Prop := Ex H H' ∧ ∃ vs, H' d = some (.lst vs) ∧ vs.length = i ∧ ∀ v ∈ vs, G K (aside H' (d :: S)) v W N D B
theorem lcw_turn {d : Addr} {i : Nat} {σ2 : L2.St} (hd : H d = none) (w : LcW K S H d W N D B i H') (hi : i < 90000) (g : PV K (d :: S) W N D B te σ2 H') : tYes σ2 H' fun b H3 => if b = true then te σ2 H3 fun y H4 => ∃ acc, H4 d = some (.lst acc) ∧ acc.length < sizeLine ∧ LcW K S H d W N D B (i + 1) (upd H4 d (.lst (acc ++ [y]))) else LcW K S H d W N D B (i + 1) H3 := by
  obtain ⟨e, vs, hv, hl, hg⟩ := w
  refine tYesQ (g H' (Ex.refl H') _ fun y H4 e4 gy => ⟨vs, e4 _ _ hv, sz_lt (by omega), Ex.mut (e.trans e4) hd, _, upd_same, by rw [List.length_append, hl]; rfl, fun v z => ?_⟩)
  have same : Ex (aside H4 (d :: S)) (aside (upd H4 d (.lst (vs ++ [y]))) (d :: S)) := aside_ex fun a o ha h => by
    have hne : a ≠ d := fun z => ha (by rw [z]; exact List.mem_cons_self ..)
    rw [upd_ne hne]
    exact h
  rcases List.mem_append.mp z with z | z
  · exact ((hg v z).mono (aside_e e4)).mono same
  · rw [List.mem_singleton.mp z]
    exact gy.mono same
theorem pl_lcT {tl : TE} {j : Nat} {vs : List Nat} (src : PTp K S W N D B tl σ H) (hW : W ≤ 100000) (clean : ∀ x, wipe ((wipe σ vs).set j (some x)) vs = wipe σ vs)
    (each : ∀ (d : Addr) (x : V) H1, Ex H H1 → Sin S H1 → (∃ o, H1 d = some o) → d ∉ S → Ex (aside H S) (aside H1 (d :: S)) → G K (aside H1 (d :: S)) x W N D B → PV K (d :: S) W' N' D' B' te ((wipe σ vs).set j (some x)) H1) (s : Sin S H) :
    PLn K S (W / 10) W' N' D' B' (tLc (iTup K tl) (gName j) tYes te vs) σ H := fun H1 e Q q =>
  src H1 e _ fun p xs H2 e2 sp gx => ⟨p, rfl, ⟨xs, ex_t (aside_sub _ _) sp⟩, fun d hd => by
    have len := gx.len
    have e02 := e.trans e2
    refine lc_tup (xs := xs) (LcW K S H2 d W' N' D' B') ⟨Ex.new hd, [], upd_same, rfl, fun v z => by cases z⟩ (fun i H' _ w => ex_t w.1 (ex_t (aside_sub _ _) sp)) (fun i x H' hx w => ?_) (fun H' w => ?_)
    · have hi := (List.getElem?_eq_some_iff.mp hx).1
      obtain ⟨o, ho⟩ : ∃ o, H' d = some o := by
        obtain ⟨_, ws, h, _⟩ := w
        exact ⟨_, h⟩
      have more : Ex (aside H2 S) (aside H' (d :: S)) := aside_more hd w.1
      exact ⟨clean x, lcw_turn hd w (by omega) (each d x H' (e02.trans w.1) (s.ex (e02.trans w.1)) ⟨o, ho⟩ ((s.ex e02).off hd) ((aside_e e02).trans more) ((gx.get (List.mem_of_getElem? hx)).mono more))⟩
    · obtain ⟨e3, ws, h, hl, hg⟩ := w
      exact q d ws H' (fresh_back e2 hd) (e2.trans e3) h ((s.ex e02).off hd) (by omega) fun v z => hg v z⟩
theorem pl_lcL {tl : TE} {j : Nat} {vs : List Nat} (src : PLs K S n W N D B tl σ H) (hn : n ≤ 50000) (clean : ∀ x, wipe ((wipe σ vs).set j (some x)) vs = wipe σ vs)
    (each : ∀ (d : Addr) (x : V) H1, Ex H H1 → Sin S H1 → (∃ o, H1 d = some o) → d ∉ S → Ex (aside H S) (aside H1 (d :: S)) → G K (aside H1 (d :: S)) x W N D B → PV K (d :: S) W' N' D' B' te ((wipe σ vs).set j (some x)) H1) (s : Sin S H) :
    PLn K S n W' N' D' B' (tLc (iList K tl) (gName j) tYes te vs) σ H := fun H1 e Q q =>
  src H1 e _ fun p xs H2 e2 hp off hl gx => ⟨p, rfl, ⟨xs, sq_of hp⟩, fun d hd => by
    have e02 := e.trans e2
    refine lc_list (xs := xs) (LcW K S H2 d W' N' D' B') ⟨Ex.new hd, [], upd_same, rfl, fun v z => by cases z⟩ (fun i H' _ w => sq_of (w.1 _ _ hp)) (fun i x H' hx w => ?_) (fun H' w => ?_)
    · have hi := (List.getElem?_eq_some_iff.mp hx).1
      obtain ⟨o, ho⟩ : ∃ o, H' d = some o := by
        obtain ⟨_, ws, h, _⟩ := w
        exact ⟨_, h⟩
      have more : Ex (aside H2 S) (aside H' (d :: S)) := aside_more hd w.1
      exact ⟨clean x, lcw_turn hd w (by omega) (each d x H' (e02.trans w.1) (s.ex (e02.trans w.1)) ⟨o, ho⟩ ((s.ex e02).off hd) ((aside_e e02).trans more) (((gx x (List.mem_of_getElem? hx)).mono aside_less).mono more))⟩
    · obtain ⟨e3, ws, h, hl3, hg⟩ := w
      exact q d ws H' (fresh_back e2 hd) (e2.trans e3) h ((s.ex e02).off hd) (by omega) fun v z => hg v z⟩
theorem q_forP {tl : TE} {j : Nat} {tu tz : TS} {De : Ends} (src : PTp K S W N D B tl σ H) (go : ∀ p xs H1, Ex H H1 → SqT K (aside H1 S) p xs → GL K (aside H1 S) xs W N D B → ∃ Pv : Nat → L2.St → Hp → Prop, Pv 0 σ H1 ∧ (∀ i σ' H', i ≤ xs.length → Pv i σ' H' → SqT K H' p xs) ∧
    (∀ i x σ' H', xs[i]? = some x → Pv i σ' H' → tu { De with nx := Pv (i + 1), ct := Pv (i + 1), bk := tz De } (σ'.set j (some x)) H') ∧ ∀ σ' H', Pv xs.length σ' H' → tz De σ' H') : tSeq (tFor (iTup K tl) (gName j) tu) tz De σ H :=
  src H (Ex.refl H) _ fun p xs H1 e s g => by
    obtain ⟨Pv, h0, hl, hs, hd⟩ := go p xs H1 e s g
    exact ⟨p, rfl, ⟨xs, ex_t (aside_sub _ _) s⟩, for_tup Pv h0 hl hs hd⟩
theorem q_asgLs {i : Nat} {tz : TS} {De : Ends} (src : PLn K S n W N D B te σ H) (k : ∀ p xs H1, H p = none → Ex H H1 → H1 p = some (.lst xs) → p ∉ S → xs.length ≤ n → (∀ v ∈ xs, G K (aside H1 (p :: S)) v W N D B) → tz De (σ.set i (some (.ref p))) H1) : tSeq (tAsg te (gName i)) tz De σ H := src H (Ex.refl H) _ fun p xs H1 hn e h1 off hl hg => k p xs H1 hn e h1 off hl hg
theorem s_retLs {De : Ends} (src : PLn K S n W N D B te σ H) (k : ∀ p xs H1, Ex H H1 → H1 p = some (.lst xs) → p ∉ S → xs.length ≤ n → (∀ v ∈ xs, G K (aside H1 (p :: S)) v W N D B) → De.rt (.ref p) H1) : tRet te De σ H := src H (Ex.refl H) _ fun p xs H1 _ e h1 off hl hg => k p xs H1 e h1 off hl hg
/-- for one in (..): found.append(..) -/
theorem q_forApp {tl : TE} {j i : Nat} {tz : TS} {De : Ends} {pf : Addr} {ys : List V} {c0 : Option V} {S0 : List Addr} (hj : σ[j]? = some c0) (src : PTp K (pf :: S0) W N D B tl σ H) (hW : W ≤ 200000) (hp : H pf = some (.lst ys)) (hys : ys.length ≤ 10000) (gys : ∀ y ∈ ys, G K (aside H (pf :: S0)) y W' N' D' B') (hi : ∀ x, (σ.set j (some x))[i]? = some (some (.ref pf)))
    (each : ∀ x H', (∀ c o, c ≠ pf → H c = some o → H' c = some o) → (∃ zs, H' pf = some (.lst zs)) → G K (aside H' (pf :: S0)) x W N D B → PV K (pf :: S0) W' N' D' B' te (σ.set j (some x)) H')
    (tail : ∀ c H' zs, (∀ c o, c ≠ pf → H c = some o → H' c = some o) → H' pf = some (.lst zs) → zs.length ≤ ys.length + W / 10 → (∀ z ∈ zs, G K (aside H' (pf :: S0)) z W' N' D' B') → tz De (σ.set j c) H') : tSeq (tFor (iTup K tl) (gName j) (tDrop (tBM K "list" rAppend (tVar i) (tCons te tNil)))) tz De σ H := by
  refine q_forP src fun tp zs H5 e5 stp gzs => ?_
  have zl := gzs.len
  have stay : ∀ {H'}, (∀ c o, c ≠ pf → H5 c = some o → H' c = some o) → Ex (aside H5 (pf :: S0)) (aside H' (pf :: S0)) := fun k => aside_ex fun c o hc e => k c o (fun z => hc (by rw [z]; exact List.mem_cons_self ..)) e
  have back : ∀ {H' : Hp}, (∀ c o, c ≠ pf → H5 c = some o → H' c = some o) → ∀ c o, c ≠ pf → H c = some o → H' c = some o := fun k c o hc e => k c o hc (e5 c o e)
  refine ⟨fun n σ' H' => (∀ c o, c ≠ pf → H5 c = some o → H' c = some o) ∧ ∃ us c, H' pf = some (.lst us) ∧ us.length = ys.length + n ∧ (∀ u ∈ us, G K (aside H' (pf :: S0)) u W' N' D' B') ∧ σ' = σ.set j c, ?_, ?_, ?_, ?_⟩
  · refine ⟨fun c o _ e => e, ys, c0, e5 _ _ hp, rfl, fun u hu => g_ex (gys u hu) e5, ?_⟩
    refine (List.ext_getElem? fun k => ?_)
    rw [List.getElem?_set]
    split
    · rename_i h
      subst h
      split
      · exact hj
      · rename_i h2
        rw [List.getElem?_eq_none (by omega)] at hj
        cases hj
    · rfl
  · intro n σ' H6 _ hP
    exact ex_t (aside_sub _ _) (ex_t (stay hP.1) stp)
  · intro n x σ' H6 hx hP
    obtain ⟨k6, us, c, hu, ul, ug, rfl⟩ := hP
    have hn := (List.getElem?_eq_some_iff.mp hx).1
    rw [List.set_set]
    refine ⟨.ref pf, hi x, Or.inl ⟨rfl, us, sq_of hu⟩, ?_⟩
    refine (each x H6 (back k6) ⟨us, hu⟩ ((gzs.get (List.mem_of_getElem? hx)).mono (stay k6))) H6 (Ex.refl H6) _ fun y H7 e7 gy => ?_
    refine ⟨pf, us, y, rfl, rfl, e7 _ _ hu, sz_lt (by omega), fun c o hc e => by rw [upd_ne hc]; exact e7 _ _ (k6 c o hc e), us ++ [y], _, upd_same, by rw [List.length_append]; simp only [List.length_singleton]; omega, fun u hm => ?_, rfl⟩
    have same : Ex (aside H7 (pf :: S0)) (aside (upd H7 pf (.lst (us ++ [y]))) (pf :: S0)) := aside_ex fun c o hc e => by
      have hne : c ≠ pf := fun z => hc (by rw [z]; exact List.mem_cons_self ..)
      rw [upd_ne hne]
      exact e
    rcases List.mem_append.mp hm with hm | hm
    · exact ((ug u hm).mono (aside_e e7)).mono same
    · rw [List.mem_singleton.mp hm]
      exact gy.mono same
  · intro σ' H6 hP
    obtain ⟨k6, us, c, hu, ul, ug, rfl⟩ := hP
    exact tail c H6 us (back k6) hu (by omega) ug
theorem catS {a b : Addr} {xs ys : List V} {Q : VK} (s : Sin S H) (sa : SqT K (aside H S) a xs) (sb : SqT K (aside H S) b ys) (hz : xs.length + ys.length ≤ 100000) (q : ∀ r H', Ex H H' → SqT K (aside H' S) r (xs ++ ys) → Q (.ref r) H') : rCatA K (.ref a) (.ref b) H Q := by
  refine ⟨a, b, xs, ys, rfl, rfl, ex_t (aside_sub _ _) sa, ex_t (aside_sub _ _) sb, sz_of hz, fun z => ?_, fun _ z => ?_, fun _ _ r hr => ?_⟩
  · subst z
    exact q b H (Ex.refl H) sb
  · subst z
    rw [List.append_nil] at q
    exact q a H (Ex.refl H) sa
  · exact q r _ (Ex.new hr) (st_of (aside_new s hr))
theorem slS {a : Addr} {xs : List V} {Q : VK} {lo hi : Option Int} (s : Sin S H) (sa : SqT K (aside H S) a xs) (q : ∀ r H', Ex H H' → SqT K (aside H' S) r (cutV xs lo hi) → Q (.ref r) H') : rSlA K (.ref a) lo hi H Q := by
  refine ⟨a, xs, rfl, ex_t (aside_sub _ _) sa, fun z => ?_, fun _ r hr => q r _ (Ex.new hr) (st_of (aside_new s hr))⟩
  have e : cutV xs lo hi = xs := by
    unfold cutV
    rw [z.1, z.2]
    simp
  rw [e] at q
  exact q a H (Ex.refl H) sa
end
theorem dats_get : ∀ {ms : List Tr} {i : Nat} {m : Tr}, ms[i]? = some m → (dats ms)[i]? = some m.dat
  | [], _, _, h => by simp at h
  | t :: ts, 0, m, h => by simp at h; subst h; simp [dats]
  | t :: ts, i + 1, m, h => by
    have := dats_get (ms := ts) (i := i) (m := m) (by simpa using h)
    simpa [dats] using this
theorem dats_len : ∀ ms : List Tr, (dats ms).length = ms.length
  | [] => rfl
  | t :: ts => by simp [dats, dats_len ts]
end NL

/-! the box that draws: a list of three numbers; a box of names: a dict of three -/
namespace NL
open PySem L2 Evl
structure BxAt (H : Hp) (h : Addr) (n m c : Int) (C : Nat) : Prop where
  hh : H h = some (.lst [.int n, .int m, .int c])
  n0 : 0 ≤ n
  m0 : 0 ≤ m
  m1 : m < 2 ^ 100
  c0 : 0 ≤ c
  c1 : c ≤ C
def Bx (H : Hp) (h : Addr) (C : Nat) : Prop := ∃ n m c, BxAt H h n m c C
theorem BxAt.ex {H H' : Hp} {h : Addr} {n m c : Int} {C : Nat} (A : BxAt H h n m c C) (e : Ex H H') : BxAt H' h n m c C := ⟨e _ _ A.hh, A.n0, A.m0, A.m1, A.c0, A.c1⟩
theorem Bx.ex {H H' : Hp} {h : Addr} {C : Nat} (A : Bx H h C) (e : Ex H H') : Bx H' h C := by
  obtain ⟨n, m, c, A⟩ := A
  exact ⟨n, m, c, A.ex e⟩
theorem Bx.up {H : Hp} {h : Addr} {C C' : Nat} (A : Bx H h C) (hC : C ≤ C') : Bx H h C' := by
  obtain ⟨n, m, c, A⟩ := A
  exact ⟨n, m, c, A.hh, A.n0, A.m0, A.m1, A.c0, by have := A.c1; omega⟩
theorem Bx.fresh {H : Hp} {h p : Addr} {C : Nat} (A : Bx H h C) (n : H p = none) : p ≠ h := by
  obtain ⟨_, _, _, A⟩ := A
  intro e
  subst e
  rw [A.hh] at n
  cases n
theorem Bx.new {H : Hp} {h p : Addr} {o : HO} {C : Nat} (A : Bx H h C) (n : H p = none) : Bx (upd H p o) h C := A.ex (Ex.new n)
theorem Bx.sin {H : Hp} {h : Addr} {C : Nat} (A : Bx H h C) : Sin [h] H := by
  obtain ⟨_, _, _, A⟩ := A
  intro a ha
  rw [List.mem_singleton.mp ha, A.hh]
  exact fun z => by cases z
theorem ev_abs {σ : L2.St} {H : Hp} {te : TE} {i : Int} (h : Ev te σ H (.int i)) : Ev (tCB (fun xs H Q => ∃ i, xs = [.int i] ∧ Q (.int (if i < 0 then -i else i)) H) (tCons te tNil)) σ H (.int (if i < 0 then -i else i)) := ev_cb (ea_cons h ea_nil) fun H1 e Q q => ⟨i, rfl, q H1 (Ex.refl H1)⟩
theorem ev_intB {σ : L2.St} {H : Hp} {te : TE} {b : Bool} (h : Ev te σ H (.bl b)) : Ev (tCB (fun xs H Q => (∃ i, xs = [.int i] ∧ Q (.int i) H) ∨ ∃ k, xs = [.bl k] ∧ Q (.int (if k then 1 else 0)) H) (tCons te tNil)) σ H (.int (if b then 1 else 0)) := ev_cb (ea_cons h ea_nil) fun H1 e Q q => Or.inr ⟨b, rfl, q H1 (Ex.refl H1)⟩
theorem kp_mut {h : Addr} {H H' : Hp} {p : Addr} {o : HO} (k : Kp h h H H') (n : H p = none) : Kp h h H (upd H' p o) := fun a u n1 n2 e => by
  have : a ≠ p := fun z => by
    subst z
    rw [n] at e
    cases e
  rw [upd_ne this]
  exact k a u n1 n2 e
theorem ex_kp {H H1 H' : Hp} {h : Addr} (e : Ex H H1) (n : H h = none) (k : Kp h h H1 H') : Ex H H' := fun a o ha => by
  have : a ≠ h := fun z => by
    subst z
    rw [n] at ha
    cases ha
  exact k a o this this (e _ _ ha)
/-! ### names by a dict: which is next, the first, how far from one to the next -/
def NB (H : Hp) (bx : Addr) (k : Nat) (f b : Int) : Prop := H bx = some (.dK [(Sum.inr (Str.ofString "next"), .int (k : Int)), (Sum.inr (Str.ofString "first"), .int f), (Sum.inr (Str.ofString "by"), .int b)])
def nmL (f b : Int) (j : Nat) : Str := ⟨#[97 + ((f + b * (j : Int)) % 26).toNat]⟩
theorem nmL_ok (f b : Int) (j : Nat) : nameOk (nmL f b j) := by
  refine ⟨?_, ?_, fun c hc => ?_⟩
  · show 1 ≤ 1
    decide
  · show 1 ≤ 8
    decide
  · have : c = 97 + ((f + b * (j : Int)) % 26).toNat := by simpa [nmL] using hc
    omega
def byOk (b : Int) : Prop := b = 1 ∨ b = 3 ∨ b = 5 ∨ b = 7 ∨ b = 9 ∨ b = 11 ∨ b = 25
theorem nmL_ne {f b : Int} (h : byOk b) {i j : Nat} (hi : i < j) (hj : j < i + 26) : nmL f b i ≠ nmL f b j := by
  intro e
  have e2 : ((f + b * (i : Int)) % 26).toNat = ((f + b * (j : Int)) % 26).toNat := by
    have := congrArg (fun s : Str => s.cps.toList) e
    simp [nmL] at this
    exact this
  rcases h with rfl | rfl | rfl | rfl | rfl | rfl | rfl <;> omega
theorem NB.ex {H H' : Hp} {bx : Addr} {k : Nat} {f b : Int} (n : NB H bx k f b) (e : Ex H H') : NB H' bx k f b := e _ _ n
theorem NB.kp {H H' : Hp} {bx h : Addr} {k : Nat} {f b : Int} (n : NB H bx k f b) (ne : bx ≠ h) (e : Kp h h H H') : NB H' bx k f b := e _ _ ne ne n
theorem Bx.kp {H H' : Hp} {bx h : Addr} {C : Nat} (A : Bx H h C) (ne : h ≠ bx) (e : Kp bx bx H H') : Bx H' h C := by
  obtain ⟨n, m, c, A⟩ := A
  exact ⟨n, m, c, e _ _ ne ne A.hh, A.n0, A.m0, A.m1, A.c0, A.c1⟩
theorem kp_l {H H' : Hp} {h l : Addr} (k : Kp h h H H') : Kp h l H H' := fun a o n _ e => k a o n n e
theorem kp_r {H H' : Hp} {h l : Addr} (k : Kp l l H H') : Kp h l H H' := fun a o _ m e => k a o m m e
theorem Bx.ne {H : Hp} {h bx : Addr} {C k : Nat} {f b : Int} (A : Bx H h C) (n : NB H bx k f b) : h ≠ bx := fun z => by
  obtain ⟨_, _, _, A⟩ := A
  subst z
  have := A.hh.symm.trans n
  cases this
/-- tuples stay where these two are a list and a dict -/
theorem tk_kp2 {H H' : Hp} {h bx : Addr} {C k : Nat} {f b : Int} (A : Bx H h C) (n : NB H bx k f b) (e : Kp h bx H H') : TK H H' := fun a xs ha => e a _ (fun z => by
  obtain ⟨_, _, _, A⟩ := A
  subst z
  rw [A.hh] at ha
  cases ha) (fun z => by
  subst z
  have := n.symm.trans ha
  cases this) ha
theorem tk_nb {H H' : Hp} {bx : Addr} {k : Nat} {f b : Int} (n : NB H bx k f b) (e : Kp bx bx H H') : TK H H' := fun a xs ha => by
  have : a ≠ bx := fun z => by
    subst z
    have := n.symm.trans ha
    cases this
  exact e a _ this this ha
theorem tk_bx {H H' : Hp} {h : Addr} {C : Nat} (A : Bx H h C) (e : Kp h h H H') : TK H H' := fun a xs ha => by
  obtain ⟨_, _, _, A⟩ := A
  have : a ≠ h := fun z => by
    subst z
    rw [A.hh] at ha
    cases ha
  exact e a _ this this ha
theorem fresh_kp {H H1 : Hp} {h bx D : Addr} (k : Kp h bx H H1) (dh : D ≠ h) (db : D ≠ bx) (hD : H1 D = none) : H D = none := by
  cases z : H D with
  | none => rfl
  | some o => rw [k D o dh db z] at hD; cases hD
theorem NB.fresh {H : Hp} {bx p : Addr} {k : Nat} {f b : Int} (n : NB H bx k f b) (hp : H p = none) : p ≠ bx := fun z => by
  subst z
  have := n.symm.trans hp
  cases this
/-! ### names of groups -/
mutual
def Tr.gn : Tr → List Str
  | .hand _ => []
  | .grp n _ ms => n :: gns ms
def gns : List Tr → List Str
  | [] => []
  | t :: ts => t.gn ++ gns ts
end
theorem mem_gns : ∀ {ts : List Tr} {x : Str}, x ∈ gns ts → ∃ t ∈ ts, x ∈ t.gn
  | t :: ts, x, h => by
    simp only [gns] at h
    rcases List.mem_append.mp h with h | h
    · exact ⟨t, List.mem_cons_self .., h⟩
    · obtain ⟨u, hu, hx⟩ := mem_gns h
      exact ⟨u, List.mem_cons_of_mem _ hu, hx⟩
theorem mem_nmss : ∀ {ts : List Tr} {x : Str}, x ∈ nmss ts → ∃ t ∈ ts, x ∈ t.nms
  | t :: ts, x, h => by
    simp only [nmss] at h
    rcases List.mem_append.mp h with h | h
    · exact ⟨t, List.mem_cons_self .., h⟩
    · obtain ⟨u, hu, hx⟩ := mem_nmss h
      exact ⟨u, List.mem_cons_of_mem _ hu, hx⟩
theorem oks_of : ∀ {ts : List Tr}, (∀ t ∈ ts, t.ok) → oks ts
  | [], _ => trivial
  | t :: ts, h => ⟨h t (List.mem_cons_self ..), oks_of fun u hu => h u (List.mem_cons_of_mem _ hu)⟩
theorem deeps_of {d : Nat} : ∀ {ts : List Tr}, (∀ t ∈ ts, t.deep ≤ d) → deeps ts ≤ d
  | [], _ => Nat.zero_le _
  | t :: ts, h => by
    simp only [deeps]
    exact Nat.max_le.mpr ⟨h t (List.mem_cons_self ..), deeps_of fun u hu => h u (List.mem_cons_of_mem _ hu)⟩
/-- a tree whose groups have names between these -/
structure GM (f b : Int) (lo hi d : Nat) (t : Tr) : Prop where
  ok : t.ok
  dp : t.deep ≤ d
  nm : ∀ x ∈ t.nms, nameOk x
  gn : ∀ x ∈ t.gn, ∃ j, lo < j ∧ j ≤ hi ∧ x = nmL f b j
theorem GM.up {f b : Int} {lo hi lo' hi' d d' : Nat} {t : Tr} (g : GM f b lo hi d t) (h1 : lo' ≤ lo) (h2 : hi ≤ hi') (h3 : d ≤ d') : GM f b lo' hi' d' t := ⟨g.ok, Nat.le_trans g.dp h3, g.nm, fun x hx => by
  obtain ⟨j, a, c, e⟩ := g.gn x hx
  exact ⟨j, by omega, by omega, e⟩⟩
theorem GM.hand {f b : Int} {lo hi d : Nat} {x : Str} (h : nameOk x) : GM f b lo hi d (.hand x) := ⟨trivial, Nat.zero_le _, fun y hy => by
  simp only [Tr.nms] at hy
  rw [List.mem_singleton.mp hy]
  exact h, fun y hy => by cases hy⟩
def GMs (f b : Int) (lo hi d : Nat) (ts : List Tr) : Prop := (∀ t ∈ ts, GM f b lo hi d t) ∧ sizes ts + lo ≤ hi
theorem GMs.grp {f b : Int} {lo lo' hi d j : Nat} {ms : List Tr} {c : Int} (g : GMs f b lo hi d ms) (hn : ms ≠ []) (c1 : 1 ≤ c) (c2 : c ≤ 99999999) (j1 : lo' < j) (j2 : j ≤ hi) (hl : lo' ≤ lo) : GM f b lo' hi (d + 1) (.grp (nmL f b j) c ms) where
  ok := ⟨c1, c2, hn, oks_of fun t ht => (g.1 t ht).ok⟩
  dp := by
    simp only [Tr.deep]
    have := deeps_of fun t ht => (g.1 t ht).dp
    omega
  nm := fun x hx => by
    simp only [Tr.nms] at hx
    rcases List.mem_cons.mp hx with rfl | hx
    · exact nmL_ok f b j
    · obtain ⟨t, ht, hx⟩ := mem_nmss hx
      exact (g.1 t ht).nm x hx
  gn := fun x hx => by
    simp only [Tr.gn] at hx
    rcases List.mem_cons.mp hx with rfl | hx
    · exact ⟨j, j1, j2, rfl⟩
    · obtain ⟨t, ht, hx⟩ := mem_gns hx
      obtain ⟨i, a1, a2, a3⟩ := (g.1 t ht).gn x hx
      exact ⟨i, by omega, a2, a3⟩
theorem GMs.ins {f b : Int} {lo mid hi d : Nat} {a c : List Tr} {t : Tr} (g : GMs f b lo mid d (a ++ c)) (gt : GM f b mid hi d t) (hs : t.size + mid ≤ hi) (hm : lo ≤ mid) : GMs f b lo hi d (a ++ [t] ++ c) := by
  have hs2 := g.2
  rw [sizes_app] at hs2
  refine ⟨fun u hu => ?_, ?_⟩
  · have h : u ∈ a ∨ u = t ∨ u ∈ c := by
      rcases List.mem_append.mp hu with hu | hu
      · rcases List.mem_append.mp hu with hu | hu
        · exact .inl hu
        · exact .inr (.inl (List.mem_singleton.mp hu))
      · exact .inr (.inr hu)
    rcases h with h | rfl | h
    · exact (g.1 u (List.mem_append_left _ h)).up (Nat.le_refl _) (by omega) (Nat.le_refl _)
    · exact gt.up hm (Nat.le_refl _) (Nat.le_refl _)
    · exact (g.1 u (List.mem_append_right _ h)).up (Nat.le_refl _) (by omega) (Nat.le_refl _)
  · rw [sizes_app, sizes_app]
    simp only [sizes]
    omega
theorem GMs.up {f b : Int} {lo hi hi' d d' : Nat} {ts : List Tr} (g : GMs f b lo hi d ts) (h2 : hi ≤ hi') (h3 : d ≤ d') : GMs f b lo hi' d' ts := ⟨fun t ht => (g.1 t ht).up (Nat.le_refl _) h2 h3, Nat.le_trans g.2 h2⟩
theorem GMs.app {f b : Int} {lo mid hi d : Nat} {a : List Tr} {t : Tr} (g : GMs f b lo mid d a) (gt : GM f b mid hi d t) (hs : t.size + mid ≤ hi) (hm : lo ≤ mid) : GMs f b lo hi d (a ++ [t]) := by
  have := GMs.ins (a := a) (c := []) (by rw [List.append_nil]; exact g) gt hs hm
  rw [List.append_nil] at this
  exact this
theorem trvs_ins {H : Hp} {xs : List V} {ts : List Tr} {v : V} {t : Tr} {i : Nat} (h : TrVs H xs ts) (hv : TrV H v t) : TrVs H (xs.take i ++ [v] ++ xs.drop i) (ts.take i ++ [t] ++ ts.drop i) := by
  have tk : ∀ {xs : List V} {ts : List Tr} (i : Nat), TrVs H xs ts → TrVs H (xs.take i) (ts.take i) := by
    intro xs ts i h
    induction i generalizing xs ts with
    | zero => simp; exact .nil
    | succ i ih =>
      cases h with
      | nil => exact .nil
      | cons a r => exact .cons a (ih r)
  have dr : ∀ {xs : List V} {ts : List Tr} (i : Nat), TrVs H xs ts → TrVs H (xs.drop i) (ts.drop i) := by
    intro xs ts i h
    induction i generalizing xs ts with
    | zero => exact h
    | succ i ih =>
      cases h with
      | nil => exact .nil
      | cons a r => exact ih r
  exact trvs_app (trvs_app (tk i h) (.cons hv .nil)) (dr i h)
end NL

/-! data of tuples alone: they stay whatever becomes of lists -/
namespace NL
open PySem L2 Evl
mutual
def tupOnly : PyData → Bool
  | .none => true
  | .bool _ => true
  | .int _ => true
  | .str _ => true
  | .tuple ds => tupOnlys ds
  | _ => false
def tupOnlys : List PyData → Bool
  | [] => true
  | d :: ds => tupOnly d && tupOnlys ds
end
def ST (K : PySem.W.Frag) (H H' : Hp) : Prop := ∀ a xs, SqT K H a xs → SqT K H' a xs
theorem ST.refl {K : PySem.W.Frag} (H : Hp) : ST K H H := fun _ _ h => h
theorem ST.trans {K : PySem.W.Frag} {H H1 H2 : Hp} (a : ST K H H1) (b : ST K H1 H2) : ST K H H2 := fun x y h => b x y (a x y h)
theorem ST.ex {K : PySem.W.Frag} {H H' : Hp} (e : Ex H H') : ST K H H' := fun _ _ h => ex_t e h
theorem ST.lst {K : PySem.W.Frag} {H : Hp} {p : Addr} {ys : List V} {o : HO} (h : H p = some (.lst ys)) : ST K H (upd H p o) := fun a xs s => by
  rcases s with (z | ⟨ob, z⟩) | z
  · refine Or.inl (Or.inl ?_)
    rw [upd_ne (fun y => by subst y; rw [h] at z; cases z)]
    exact z
  · refine Or.inl (Or.inr ⟨ob, ?_⟩)
    rw [upd_ne (fun y => by subst y; rw [h] at z; cases z)]
    exact z
  · exact Or.inr z
theorem ST.bx {K : PySem.W.Frag} {H H' : Hp} {h : Addr} {C : Nat} (A : Bx H h C) (k : Kp h h H H') : ST K H H' := fun a xs s => by
  obtain ⟨_, _, _, B⟩ := A
  rcases s with (z | ⟨ob, z⟩) | z
  · have : a ≠ h := fun y => by subst y; rw [B.hh] at z; cases z
    exact Or.inl (Or.inl (k _ _ this this z))
  · have : a ≠ h := fun y => by subst y; rw [B.hh] at z; cases z
    exact Or.inl (Or.inr ⟨ob, k _ _ this this z⟩)
  · exact Or.inr z
mutual
theorem dy_st {K : PySem.W.Frag} {H H' : Hp} (s : ST K H H') : ∀ (d : PyData) (v : V), tupOnly d = true → Dy K H v d → Dy K H' v d
  | .none, _, _, h => by cases h; exact .non
  | .bool b, _, _, h => by cases h; exact .bl b
  | .int i, _, _, h => by cases h; exact .int i
  | .str x, _, _, h => by cases h; exact .str x
  | .tuple ds, _, t, h => by
    cases h with
    | tup hs ha =>
      simp only [tupOnly] at t
      exact .tup (s _ _ hs) (dya_st s ds _ t ha)
  | .list ds, _, t, _ => by simp [tupOnly] at t
  | .dict ds, _, t, _ => by simp [tupOnly] at t
theorem dya_st {K : PySem.W.Frag} {H H' : Hp} (s : ST K H H') : ∀ (ds : List PyData) (vs : List V), tupOnlys ds = true → DyAll K H vs ds → DyAll K H' vs ds
  | [], _, _, h => by cases h; exact .nil
  | d :: ds, _, t, h => by
    cases h with
    | cons a b =>
      simp only [tupOnlys, Bool.and_eq_true] at t
      exact .cons (dy_st s d _ t.1 a) (dya_st s ds _ t.2 b)
end
/-- a datum of tuples alone, small -/
structure TD (K : PySem.W.Frag) (H : Hp) (W N D : Nat) (v : V) (d : PyData) : Prop where
  dy : Dy K H v d
  to : tupOnly d = true
  wt : wt d ≤ W
  nd : nodes d ≤ N
  dp : d.depth ≤ D
  ok : okD 1000 d
theorem TD.st {K : PySem.W.Frag} {H H' : Hp} {W N D : Nat} {v : V} {d : PyData} (t : TD K H W N D v d) (s : ST K H H') : TD K H' W N D v d := ⟨dy_st s d v t.to t.dy, t.to, t.wt, t.nd, t.dp, t.ok⟩
theorem TD.up {K : PySem.W.Frag} {H : Hp} {W N D W' N' D' : Nat} {v : V} {d : PyData} (t : TD K H W N D v d) (h1 : W ≤ W') (h2 : N ≤ N') (h3 : D ≤ D') : TD K H W' N' D' v d := ⟨t.dy, t.to, Nat.le_trans t.wt h1, Nat.le_trans t.nd h2, Nat.le_trans t.dp h3, t.ok⟩
inductive TDs (K : PySem.W.Frag) (H : Hp) (W N D : Nat) : List V → List PyData → Prop
  | nil : TDs K H W N D [] []
  | cons {v : V} {vs : List V} {d : PyData} {ds : List PyData} : TD K H W N D v d → TDs K H W N D vs ds → TDs K H W N D (v :: vs) (d :: ds)
theorem TDs.st {K : PySem.W.Frag} {H H' : Hp} {W N D : Nat} (s : ST K H H') : ∀ {vs : List V} {ds : List PyData}, TDs K H W N D vs ds → TDs K H' W N D vs ds
  | _, _, .nil => .nil
  | _, _, .cons a b => .cons (a.st s) (b.st s)
theorem TDs.one {K : PySem.W.Frag} {H : Hp} {W N D : Nat} {v : V} {d : PyData} (t : TD K H W N D v d) : ∀ {vs : List V} {ds : List PyData}, TDs K H W N D vs ds → TDs K H W N D (vs ++ [v]) (ds ++ [d])
  | _, _, .nil => .cons t .nil
  | _, _, .cons a b => .cons a (b.one t)
theorem TDs.len {K : PySem.W.Frag} {H : Hp} {W N D : Nat} : ∀ {vs : List V} {ds : List PyData}, TDs K H W N D vs ds → vs.length = ds.length
  | _, _, .nil => rfl
  | _, _, .cons _ b => by rw [List.length_cons, List.length_cons, b.len]
theorem TDs.all {K : PySem.W.Frag} {H : Hp} {W N D : Nat} : ∀ {vs : List V} {ds : List PyData}, TDs K H W N D vs ds → DyAll K H vs ds ∧ tupOnlys ds = true ∧ wts ds ≤ ds.length * W ∧ nodess ds ≤ ds.length * N ∧ PyData.depthAll ds ≤ D ∧ okDs 1000 ds
  | _, _, .nil => ⟨.nil, rfl, by simp [wts], by simp [nodess], by simp [PyData.depthAll], by simp [okDs]⟩
  | _, _, .cons (ds := ds) a b => by
    obtain ⟨b1, b2, b3, b4, b5, b6⟩ := b.all
    refine ⟨.cons a.dy b1, by simp only [tupOnlys, a.to, b2]; rfl, ?_, ?_, ?_, ?_⟩
    · have := a.wt
      simp only [wts, List.length_cons, Nat.succ_mul]
      omega
    · have := a.nd
      simp only [nodess, List.length_cons, Nat.succ_mul]
      omega
    · have := a.dp
      simp only [PyData.depthAll]
      omega
    · simp only [okDs]
      exact ⟨a.ok, b6⟩
/-- a tuple of such ones -/
theorem TDs.tup {K : PySem.W.Frag} {H : Hp} {W N D n : Nat} {a : Addr} {vs : List V} {ds : List PyData} (t : TDs K H W N D vs ds) (hs : SqT K H a vs) (hn : ds.length ≤ n) : TD K H (n * W + 10) (n * N + 1) (D + 1) (.ref a) (.tuple ds) := by
  obtain ⟨b1, b2, b3, b4, b5, b6⟩ := t.all
  have h1 := Nat.mul_le_mul_right W hn
  have h2 := Nat.mul_le_mul_right N hn
  refine ⟨.tup hs b1, by simp only [tupOnly]; exact b2, ?_, ?_, ?_, ?_⟩
  · simp only [NL.wt]
    omega
  · simp only [nodes]
    omega
  · simp only [PyData.depth]
    omega
  · simp only [okD]
    exact b6
theorem td_non {K : PySem.W.Frag} {H : Hp} {D : Nat} : TD K H 100 1 D .non .none := ⟨.non, rfl, by simp [wt], by simp [nodes], by simp [PyData.depth], by simp [okD]⟩
theorem td_int {K : PySem.W.Frag} {H : Hp} {D : Nat} {i : Int} (h : i.natAbs ≤ 1000) : TD K H 100 1 D (.int i) (.int i) := ⟨.int i, rfl, by simp [wt], by simp [nodes], by simp [PyData.depth], by simp only [okD]; exact h⟩
theorem td_str {K : PySem.W.Frag} {H : Hp} {D : Nat} {z : Str} (h : asc z) (hl : z.length ≤ 9) : TD K H 100 1 D (.str z) (.str z) := ⟨.str z, rfl, by simp only [wt]; omega, by simp [nodes], by simp [PyData.depth], by simp only [okD]; exact h⟩
theorem td_lit {K : PySem.W.Frag} {H : Hp} {D : Nat} {s : String} (ha : (s.toList.all fun c => decide (c.toNat < 128)) = true) (hl : s.length ≤ 9) : TD K H 100 1 D (.str (Str.ofString s)) (.str (Str.ofString s)) := td_str (asc_lit ha) (by rw [PySem.ofString_length]; exact hl)
end NL

/-! a list set aside while a def is called: it stays, and nothing new leads to it -/
namespace NL
open PySem PySem.Spec PyProof.Rows L2 Evl
theorem ObjOk.over {P : Program} {w : World} {H H' : Hp} {h : Heap} (k : ∀ x u, H x = some u → (∀ zs, u ≠ .lst zs) → H' x = some u) : ∀ {o : HO} {a : Addr}, ObjOk P w H h a o → ObjOk P w H' h a o
  | .lst _, _, x => x
  | .tup _, _, x => x
  | .dK _, _, x => x
  | .dT kvs, a, x => by
    obtain ⟨h1, h2, xs, h3, h4⟩ := x
    exact ⟨h1, h2, xs, Paired.mapP h3 (fun p q r => ⟨r.1, k _ _ r.2.1 (fun zs z => by cases z), r.2.2⟩), h4⟩
  | .set _ _, _, x => x
  | .ins C dx fs, a, x => ⟨k _ _ x.1 (fun zs z => by cases z), x.2⟩
  | .own _, _, x => x
  | .xd _, _, x => x
  | .rng _ _, _, x => x
  | .frz o u, a, x => ⟨x.1, ObjOk.over k (o := u) x.2⟩
  | .tbl _, _, x => x
  | .met _ _, _, x => x
  | .ext _, _, x => x
def framed (sp : Sp) : Sp := fun vs H Q E => ∃ (q : Addr) (zs : List V), H q = some (.lst zs) ∧ sp vs (aside H [q]) (fun v H' => H' q = none → Q v (upd H' q (.lst zs))) E
section
variable {P : Program} {w : World} {K : PySem.W.Frag} {mg : Str → Option Value} {base : Heap} {k : Nat} {f : Addr} {fd : FuncData} {ps : List Str} {sp : Sp}
theorem aside_none {H : Hp} {S : List Addr} {b : Addr} (h : H b = none) : aside H S b = none := by
  by_cases hb : b ∈ S
  · exact aside_in hb
  · rw [aside_at hb]
    exact h
theorem env_less {A : Around} {outer : List Env} {s : Shared} {H : Hp} {q : Addr} {zs : List V} (e : Env0 P w K mg base A outer s H) (hq : H q = some (.lst zs)) : Env0 P w K mg base A outer s (aside H [q]) := by
  refine ⟨e.frames, e.mod, fun b o hb => ⟨(e.bs b o hb).1, aside_none (e.bs b o hb).2⟩, e.bsz, e.funs, fun b hb => aside_none (e.frf b hb), fun a o ha => ?_, e.bare⟩
  have hne : a ∉ [q] := fun z => by
    rw [aside_in z] at ha
    cases ha
  rw [aside_at hne] at ha
  refine ObjOk.over (fun x u hx nl => ?_) (e.hok a o ha)
  have hxq : x ∉ [q] := fun z => by
    rw [List.mem_singleton.mp z, hq] at hx
    cases hx
    exact nl _ rfl
  rw [aside_at hxq]
  exact hx
theorem end_more {outer : List Env} {H : Hp} {s s' : Shared} {q : Addr} {zs : List V} {Q : VK} {u : Value} (hok : HOk P w H s.heap) (frf : ∀ b ∈ frs outer, H b = none) (hq : H q = some (.lst zs)) (c : CE outer P w (aside H [q]) s (fun v H' => H' q = none → Q v (upd H' q (.lst zs))) u s') : CE outer P w H s Q u s' := by
  obtain ⟨v, H', os, bare, un, hok', ru, fin⟩ := c
  have okq := hok q _ hq
  obtain ⟨len, its, n, rv, at_q⟩ := okq
  have nq : aside H [q] q = none := aside_in (List.mem_singleton.mpr rfl)
  have free : H' q = none := un.free q _ at_q nq (by simp)
  have offq : q ∉ frs outer := fun z => by
    rw [frf q z] at hq
    cases hq
  have ne : ∀ {b : Addr} {o : HO}, H b = none ∨ (H b = some o ∧ ∀ zs, o ≠ .lst zs) → b ≠ q := fun h z => by
    subst z
    rcases h with h | ⟨h, nl⟩
    · rw [hq] at h
      cases h
    · rw [hq] at h
      cases h
      exact nl _ rfl
  have at_ne : ∀ {b : Addr}, b ≠ q → aside H [q] b = H b := fun h => aside_at (by simpa using h)
  refine ⟨v, upd H' q (.lst zs), os, bare, ⟨fun b o hb hn hf hx => un.keep b o hb (aside_none hn) hf hx, fun b o hb hn hf hx => un.slot b o hb (aside_none hn) hf hx, fun b o hb hn hx => ?_, un.there, fun b xs hb => ?_, fun b o y hb => ?_, fun b p hb => ?_⟩, fun a o ha => ?_, ru, fin free⟩
  · rw [upd_ne (ne (o := .lst []) (Or.inl hn))]
    exact un.free b o hb (aside_none hn) hx
  · have hne := ne (Or.inr ⟨hb, fun zs z => by cases z⟩)
    rw [upd_ne hne]
    exact un.tups b xs (by rw [at_ne hne]; exact hb)
  · have hne := ne (Or.inr ⟨hb, fun zs z => by cases z⟩)
    rw [upd_ne hne]
    exact un.frzs b o y (by rw [at_ne hne]; exact hb)
  · have hne := ne (Or.inr ⟨hb, fun zs z => by cases z⟩)
    rw [upd_ne hne]
    exact un.tbls b p (by rw [at_ne hne]; exact hb)
  · by_cases hne : a = q
    · subst hne
      rw [upd_same] at ha
      cases ha
      exact ⟨len, its, n, rv, un.keep a _ at_q nq offq (by simp)⟩
    · rw [upd_ne hne] at ha
      exact ObjOk.over (fun x u hx _ => (Ex.new free) x u hx) (hok' a o ha)
theorem FnG.frame (F : FnG P w K mg base k f fd ps sp) : FnG P w K mg base k f fd ps (framed sp) := by
  refine ⟨fun xs H Q E h => ?_, fun A envs s H ar vals xs Q E quiet room env binds rel told => ?_⟩
  · obtain ⟨q, zs, _, h⟩ := h
    exact F.arity _ _ _ _ h
  obtain ⟨q, zs, hq, told⟩ := told
  refine codeAny_mono (F.go A envs s (aside H [q]) ar vals xs _ E quiet room (env_less env hq) binds rel told) fun r s' out => ?_
  match r, out with
  | .error _, out => exact out.elim
  | .ok .next, out => exact out.elim
  | .ok .brk, out => exact out.elim
  | .ok .cont, out => exact out.elim
  | .ok (.ret u), out => exact end_more env.hok env.frf hq out
theorem FnOk.frame (F : FnOk P w K mg base CX0 k f fd ps sp) : FnOk P w K mg base CX0 k f fd ps (framed sp) := by
  refine ⟨fun xs H Q E h => ?_, fun A envs s H ar vals xs Q E room env binds rel told => ?_⟩
  · obtain ⟨q, zs, _, h⟩ := h
    exact F.len _ _ _ _ h
  obtain ⟨q, zs, hq, told⟩ := told
  refine codeAny_mono (F.run A envs s (aside H [q]) ar vals xs _ E room (env_less env hq) binds rel told) fun r s' out => ?_
  match r, out with
  | .error _, out => exact out.elim
  | .ok .next, out => exact out.elim
  | .ok .brk, out => exact out.elim
  | .ok .cont, out => exact out.elim
  | .ok (.ret u), out => exact end_more env.hok env.frf hq out
end
/-! ### what stays of the hand, and of data, across such a call -/
section
variable {K : PySem.W.Frag} {H H' : Hp} {h l q : Addr} {zs : List V}
theorem hand_less (A : Hand H h l) (n1 : q ≠ h) (n2 : q ≠ l) : Hand (aside H [q]) h l := by
  obtain ⟨cs, sd, A⟩ := A
  exact ⟨cs, sd, by rw [aside_at (by simpa using Ne.symm n1)]; exact A.hh, by rw [aside_at (by simpa using Ne.symm n2)]; exact A.hl, A.lo, A.hi, A.few, A.pos⟩
theorem kp_back (hq : H q = some (.lst zs)) (k : Kp h l (aside H [q]) H') : Kp h l H (upd H' q (.lst zs)) := fun a o n m e => by
  by_cases z : a = q
  · subst z
    rw [upd_same, ← hq, e]
  · rw [upd_ne z]
    exact k a o n m (by rw [aside_at (by simpa using z)]; exact e)
theorem aside_back (free : H' q = none) : Ex (aside H' [h, l]) (aside (upd H' q (.lst zs)) [q, h, l]) := fun a o e => by
  have hn : a ∉ [h, l] := fun z => by
    rw [aside_in z] at e
    cases e
  rw [aside_at hn] at e
  have hq : a ≠ q := fun z => by
    subst z
    rw [free] at e
    cases e
  rw [aside_at (by simp only [List.mem_cons, not_or] at hn ⊢; exact ⟨hq, hn⟩), upd_ne hq]
  exact e
theorem aside_two : Ex (aside H [q, h, l]) (aside (aside H [q]) [h, l]) := fun a o e => by
  have hn : a ∉ [q, h, l] := fun z => by
    rw [aside_in z] at e
    cases e
  rw [aside_at hn] at e
  simp only [List.mem_cons, List.not_mem_nil, or_false, not_or] at hn
  rw [aside_at (by simp [hn.2.1, hn.2.2]), aside_at (by simp [hn.1])]
  exact e
end
end NL

/-! sorted of a tuple of texts -/
namespace NL
open PySem PySem.Spec PyProof.Rows L2 Evl
section
variable {P : Program} {w : World} {A : Around} {E : Value → Shared → Prop} {s : Shared}
abbrev noneList : Obj := seqObj "list" #[] 0
abbrev heldAll (h : Heap) (us : List Value) : Heap := (h.push noneList).update h.objs.size (Obj.mapSeq (· ++ us.toArray))
theorem gather_tuple {l : Addr} {us : List Value} {Q : List Value → Shared → Prop} (isT : s.heap.IsTuple l us.toArray) (told : Q us { s with heap := heldAll s.heap us }) (few : us.length ≤ sizeLine) :
    wpAny (model P w) A (collect (.ref l)) Q E s := by
  obtain ⟨ob, at_l, oc, m, od⟩ := isT
  unfold collect
  refine wpAny_bind (wpAny_runValue (codeAny_builtin entry_proto_collect' ?_))
  change wpAny _ _ (do again (.builtin "list.__iadd__" ⟨[← newList [], .ref l], []⟩)) _ _ s
  refine wpAny_bind (wpAny_newList (wpAny_pure ⟨Code.quiet_builtin _ (by decide +kernel), codeAny_builtin entry_list_iadd' ?_⟩))
  change wpAny _ _ (Builtin.List.listExtendWith (.ref s.heap.objs.size) (.ref l) (.ref s.heap.objs.size)) _ _ { s with heap := s.heap.push noneList }
  unfold Builtin.List.listExtendWith
  have at2 : (s.heap.push noneList).get? l = some ob := Heap.get?_push_of_some _ at_l
  refine wpAny_bind (wpAny_typeOf (T := "tuple") ⟨ob, at2, oc⟩ ?_)
  have ty : (Value.type "tuple" == Value.type "tuple") = true := by rfl
  rw [if_pos (by rw [ty]; simp)]
  refine wpAny_bind (listItems_at at2 od (wpAny_bind (listItems_at (xs := #[]) (n := 0) (Heap.get?_push_size _ rfl) rfl ?_)))
  rw [if_neg (by simp)]
  refine wpAny_bind (listUpdate_at (xs := #[]) (n := 0) (Heap.get?_push_size _ rfl) rfl ?_ (Nat.zero_le _) (by change (#[] ++ us.toArray).size ≤ sizeLine + 1; simp only [Array.size_append, List.size_toArray, List.length_nil]; omega))
  refine wpAny_pure ?_
  change wpAny (model P w) A (load s.heap.objs.size >>= _) Q E { s with heap := heldAll s.heap us }
  refine wpAny_bind (wpAny_load (get?_update_seq (Heap.get?_push_size _ rfl) _) ?_)
  change wpAny _ _ (pure ((#[] : Array Value) ++ us.toArray).toList) Q E _
  have same : ((#[] : Array Value) ++ us.toArray).toList = us := by simp
  rw [same]
  exact wpAny_pure told
theorem sorted_tuple {l : Addr} {us : List Value} {xs : List Str} {Q : Value → Shared → Prop} (isT : s.heap.IsTuple l us.toArray) (texts : StrsAre us xs) (few : us.length < 64)
    (told : ∀ (out : Array Value) (ys : List Str), StrsAre out.toList ys → ys.Perm xs → sortedS ys = true → Q (.ref (s.heap.objs.size + 1)) { s with heap := sortedAll s.heap us out }) :
    wpAny (model P w) A (call (.builtin "sorted") [.ref l]) Q E s := by
  have fits : us.length ≤ sizeLine := small64 few
  refine Calls.call_function_entry kind_sorted plain_sorted entry_sorted (args_sorted1 _) ?_
  unfold Builtin.«sorted»
  refine wpAny_bind (m := checkCount "sorted" 1 1 _) (wpAny_pure (wpAny_bind (gather_tuple isT (wpAny_bind (wpAny_newList ?_ fits)) fits)))
  have sz : (heldAll s.heap us).objs.size = s.heap.objs.size + 1 := by
    rw [Heap.size_update, size_push']
  have at3 : ((heldAll s.heap us).push (seqObj "list" us.toArray 0)).get? (s.heap.objs.size + 1) = some (seqObj "list" us.toArray 0) := by
    rw [← sz]
    exact Heap.get?_push_size _ rfl
  change wpAny _ _ _ _ _ { s with heap := (heldAll s.heap us).push (seqObj "list" us.toArray 0) }
  rw [sz]
  refine wpAny_bind (wpAny_holding (wpAny_call_entry slot_list_sort ⟨_, at3, rfl⟩ entry_list_sort (list_sort_treeK strKind_oneLt at3 texts.keysOf (fun a b r e => keyKind_strs (by rw [← e]; exact texts)) few fun st pm so => ⟨_, rfl, ?_⟩) (args_list_sort _)))
  obtain ⟨ys, h1, h2, h3⟩ := sorted_out_str texts pm so
  exact wpAny_pure ⟨_, rfl, told _ ys h1 h2 h3⟩
end
section
variable {X : Cx}
def rSortT (K : PySem.W.Frag) : List V → Hp → VK → Prop := fun vs H Q => ∃ (a : Addr) (xs : List Str), vs = [V.ref a] ∧ SqT K H a (xs.map V.str) ∧ xs.length < 64 ∧ ∀ (ys : List Str) (p : Addr), ys.Perm xs → sortedS ys = true → H p = none → Q (.ref p) (upd H p (.lst (ys.map V.str)))
theorem sortTK {K : PySem.W.Frag} (h : X.K = K) : CallR X (.builtin "sorted") (rSortT K) := by
  subst h
  intro pins s σ H vs us Q I rel told
  obtain ⟨a, xs, rfl, hs, few, q⟩ := told
  obtain ⟨u, rfl, ru⟩ := vals1 rel
  cases ru
  obtain ⟨its, rv, pt, _⟩ := I.tuple hs
  have len := rv.length
  rw [List.length_map] at len
  refine sorted_tuple (us := its) pt rv.strs (by omega) fun out ys h1 h2 h3 => ?_
  obtain ⟨ep, at_p⟩ := PyProof.Rows.sortedAll_at s.heap its out
  have fits : (ys.map V.str).length ≤ sizeLine := by
    rw [List.length_map, h2.length_eq]
    exact small64 few
  exact ⟨.ref _, upd H (s.heap.objs.size + 1) (.lst (ys.map V.str)), I.laid (t' := s.toks) (fun _ _ => PyProof.Rows.sortedAll_old) (Nat.le_succ _) ⟨fits, out.toList, ep, vals_of_strs h1, at_p⟩, rfl, q ys _ h2 h3 (I.hok.fresh (Nat.le_succ _))⟩
theorem sortLK {K : PySem.W.Frag} (h : X.K = K) : CallR X (.builtin "sorted") (rSortedS K) := by subst h; exact cr_sortedS
end
/-! ### one sorted row alone -/
def leS (x y : Str) : Prop := x.cps.toList ≤ y.cps.toList
theorem rising_le : ∀ {r : List Str} {p : Str}, risingS p r = true → ∀ y ∈ r, leS p y
  | [], _, _, y, h => by cases h
  | x :: r, p, h, y, hy => by
    simp only [risingS, Bool.and_eq_true, Bool.not_eq_true', ltCps_eq, decide_eq_false_iff_not] at h
    have px : leS p x := List.not_lt.mp h.1
    rcases List.mem_cons.mp hy with rfl | hy
    · exact px
    · exact List.le_trans px (rising_le h.2 y hy)
theorem rising_tail {r : List Str} {p : Str} (h : risingS p r = true) : sortedS r = true := by
  cases r with
  | nil => rfl
  | cons x r =>
    simp only [risingS, Bool.and_eq_true] at h
    exact h.2
theorem leS_eq {x y : Str} (h : leS x y) (k : leS y x) : x = y := by
  have e : x.cps.toList = y.cps.toList := List.le_antisymm h k
  cases x
  cases y
  simpa using e
theorem sorted_unique : ∀ {xs ys : List Str}, sortedS xs = true → sortedS ys = true → xs.Perm ys → xs = ys
  | [], ys, _, _, p => by
    have := p.length_eq
    cases ys with
    | nil => rfl
    | cons _ _ => simp at this
  | x :: r, [], _, _, p => by
    have := p.length_eq
    simp at this
  | x :: r, y :: q, hx, hy, p => by
    have h1 : ∀ z ∈ r, leS x z := rising_le hx
    have h2 : ∀ z ∈ q, leS y z := rising_le hy
    have e : x = y := by
      have hxm : x ∈ y :: q := p.mem_iff.mp (List.mem_cons_self ..)
      have hym : y ∈ x :: r := p.mem_iff.mpr (List.mem_cons_self ..)
      rcases List.mem_cons.mp hxm with h | h
      · exact h
      · rcases List.mem_cons.mp hym with k | k
        · exact k.symm
        · exact leS_eq (h1 y k) (h2 x h)
    subst e
    rw [sorted_unique (rising_tail hx) (rising_tail hy) (List.Perm.cons_inv p)]
theorem nodes_lenB : ∀ ds : List PyData, ds.length ≤ nodess ds
  | [] => by simp
  | d :: ds => by
    have := nodes_lenB ds
    have : 1 ≤ nodes d := by cases d <;> simp [nodes]
    simp only [List.length_cons, nodess]
    omega
theorem nodes_memB : ∀ {ds : List PyData} {d : PyData}, d ∈ ds → nodes d ≤ nodess ds
  | [], _, h => by cases h
  | e :: ds, d, h => by
    simp only [nodess]
    rcases List.mem_cons.mp h with rfl | h
    · omega
    · have := nodes_memB h
      omega
theorem oks_memB {B : Nat} : ∀ {ds : List PyData}, okDs B ds → ∀ d ∈ ds, okD B d
  | [], _, d, h => by cases h
  | e :: ds, o, d, h => by
    simp only [okDs] at o
    rcases List.mem_cons.mp h with rfl | h
    · exact o.1
    · exact oks_memB o.2 d h
def insS (x : Str) : List Str → List Str
  | [] => [x]
  | y :: r => if y.cps.toList < x.cps.toList then y :: insS x r else x :: y :: r
theorem insS_perm (x : Str) : ∀ r : List Str, (insS x r).Perm (x :: r)
  | [] => List.Perm.refl _
  | y :: r => by
    unfold insS
    split
    · exact ((insS_perm x r).cons y).trans (List.Perm.swap x y r)
    · exact List.Perm.refl _
theorem insS_rise (x : Str) : ∀ {r : List Str} {p : Str}, risingS p r = true → leS p x → risingS p (insS x r) = true
  | [], p, _, h => by
    simp only [insS, risingS, Bool.and_true, Bool.not_eq_true', ltCps_eq, decide_eq_false_iff_not]
    exact List.not_lt.mpr h
  | y :: r, p, hr, h => by
    simp only [risingS, Bool.and_eq_true] at hr
    unfold insS
    split
    · rename_i hy
      simp only [risingS, Bool.and_eq_true]
      exact ⟨hr.1, insS_rise x hr.2 (List.le_of_lt hy)⟩
    · rename_i hy
      simp only [risingS, Bool.and_eq_true, Bool.not_eq_true', ltCps_eq, decide_eq_false_iff_not]
      exact ⟨List.not_lt.mpr h, hy, hr.2⟩
theorem insS_sorted (x : Str) : ∀ {r : List Str}, sortedS r = true → sortedS (insS x r) = true
  | [], _ => rfl
  | y :: r, h => by
    unfold insS
    split
    · rename_i hy
      exact insS_rise x h (List.le_of_lt hy)
    · rename_i hy
      simp only [sortedS, risingS, Bool.and_eq_true, Bool.not_eq_true', ltCps_eq, decide_eq_false_iff_not]
      exact ⟨hy, h⟩
theorem sort_ex : ∀ xs : List Str, ∃ ys : List Str, ys.Perm xs ∧ sortedS ys = true
  | [] => ⟨[], List.Perm.refl _, rfl⟩
  | x :: xs => by
    obtain ⟨ys, h1, h2⟩ := sort_ex xs
    exact ⟨insS x ys, (insS_perm x ys).trans (h1.cons x), insS_sorted x h2⟩
end NL

/-! the law's own call, with the modules' dict held in sight -/
namespace NL
open PySem PySem.Spec PyProof.Rows L2 Evl
section
variable {P : Program} {w : World} {K : PySem.W.Frag} {mg mb : Str → Option Value} {k : Nat} {fa a : Addr} {fd : FuncData} {x : Str} {sp : Sp} {s : Shared} {vals : List Value} {ns : List Int}
theorem held_call (kin : K.In s.heap) (glob : s.heap.Ns mainGlobals mg) (blt : s.heap.Ns builtinsNs mb) (boot : ∀ x : Str, x ≠ "__name__" → mb x = bootBuiltins x) (nolim : s.heap.NoLimit) (gens : s.gens = #[])
    (script : s.heap.get? a = some { cls := .type "list", data := .seq vals.toArray }) (room : Room k callerA) (F : ∀ base : Heap, K.In base → base.Ns mainGlobals mg → FnG P w K mg base k fa fd [x] sp)
    (bind : ∀ (s : Shared) (u : Value), BindsTo s fd ⟨[u], []⟩ [(x, u)]) (H : Hp) (only : ∀ b, H b = none ∨ ∃ o u, H b = some (.frz o u)) (promise : sp [.ref a] H (fun v _ => v = .bl true) E0) (hok : HOk P w H s.heap) (just : ∀ b, H b ≠ none → b = a ∨ b = sysModules) (off : ∀ b, H b ≠ none → K.lookup b = none) :
    codeAny (model P w) callerA (.call (.ref fa) ⟨[.ref a], []⟩) (fun r s' => r = .ok (.ret (.bool true)) ∧ OldK s.heap s'.heap ∧ s'.os = s.os ∧ AllBare s'.gens) s := by
  have free : ∀ {b : Addr} {o : Obj}, s.heap.get? b = some o → b ≠ sysModules → (∀ its n, o.data ≠ .seq its n) → H b = none := by
    intro b o e nsys nseq
    cases hb : H b with
    | none => rfl
    | some u =>
      exfalso
      rcases just b (by rw [hb]; exact fun z => by cases z) with eb | eb
      · subst eb
        rw [script] at e
        cases e
        exact nseq _ _ rfl
      · exact nsys eb
  have seen : ∀ {b : Addr} {m : Str → Option Value}, b ≠ sysModules → s.heap.Ns b m → (hidT s.heap H).Ns b m := by
    intro b m n h
    obtain ⟨o, es, ep, e, d, r⟩ := h
    exact ⟨o, es, ep, hidT_get e (free e n (fun its n z => by rw [d] at z; cases z)), d, r⟩
  have kin' : K.In (hidT s.heap H) := by
    intro b o e
    refine hidT_get (kin b o e) ?_
    cases hb : H b with
    | none => rfl
    | some u =>
      exfalso
      rw [off b (by rw [hb]; exact fun z => by cases z)] at e
      cases e
  have m1 : mainGlobals ≠ sysModules := by decide
  have env0 : Env0 P w K mg (hidT s.heap H) callerA [] s H := by
    refine ⟨rfl, ⟨kin', seen m1 glob, ⟨mb, seen (by decide) blt, boot⟩, ?_⟩, fun b o e => of_hidT e, Nat.le_of_eq (hidT_size _ _), trivial, fun b hb => ?_, hok, .of_eq gens⟩
    · obtain ⟨mc, h1, h2⟩ := nolim
      exact ⟨mc, seen (by decide) h1, h2⟩
    · exact absurd (show b ∈ ([] : List Addr) from hb) (by simp)
  refine codeAny_mono ((F _ kin' (seen m1 glob)).go callerA [] s H ⟨[.ref a], []⟩ [.ref a] [.ref a] _ _ rfl room env0 (bind s (.ref a)) (.cons rfl .nil) promise) fun r s' out => ?_
  match r, out with
  | .error _, out => exact out.elim
  | .ok .next, out => exact out.elim
  | .ok .brk, out => exact out.elim
  | .ok .cont, out => exact out.elim
  | .ok (.ret u), out =>
    obtain ⟨v, H', os, bare, un, hok', ru, hv⟩ := out
    have ev : v = .bl true := hv
    subst ev
    have eu : u = Value.bool true := ru
    subst eu
    refine ⟨rfl, OldK.of_keep fun b o e => ?_, os, bare⟩
    rcases only b with z | ⟨ob, y, z⟩
    · exact un.keep b o e z (fun q => absurd (show b ∈ ([] : List Addr) from q) (by simp)) (by simp)
    · have was := (hok b _ z).1
      have now := (hok' b _ (un.frzs b ob _ z)).1
      rw [e] at was
      cases was
      exact now
theorem law_y {mm : Str → Option Value} (kin : K.In s.heap) (glob : s.heap.Ns mainGlobals mg) (blt : s.heap.Ns builtinsNs mb) (boot : ∀ x : Str, x ≠ "__name__" → mb x = bootBuiltins x) (nolim : s.heap.NoLimit) (mods : s.heap.Ns sysModules mm) (gens : s.gens = #[])
    (script : s.heap.get? a = some { cls := .type "list", data := .seq vals.toArray }) (whole : PyProof.Rows.IntsAre vals ns) (few : ns.length ≤ sizeLine) (room : Room k callerA) (F : ∀ base : Heap, K.In base → base.Ns mainGlobals mg → FnG P w K mg base k fa fd [x] sp)
    (bind : ∀ (s : Shared) (u : Value), BindsTo s fd ⟨[u], []⟩ [(x, u)]) (promise : ∀ H : Hp, Sy K H → SqL K H a (ns.map V.int) → sp [.ref a] H (fun v _ => v = .bl true) E0) :
    codeAny (model P w) callerA (.call (.ref fa) ⟨[.ref a], []⟩) (fun r s' => r = .ok (.ret (.bool true)) ∧ OldK s.heap s'.heap ∧ s'.os = s.os ∧ AllBare s'.gens) s := by
  have rel := vals_ints whole
  have many := whole.length
  obtain ⟨om, es, ep, hm, hd, _⟩ := mods
  have apart : a ≠ sysModules := by
    intro z
    subst z
    rw [script] at hm
    cases hm
    cases hd
  let S : HO := .frz { cls := .type "list", data := .seq vals.toArray } (.lst (ns.map V.int))
  let M : HO := .frz om (.ext fun _ => True)
  let H : Hp := fun b => if b = a then (if K.lookup a = none then some S else none) else if b = sysModules then (if K.lookup sysModules = none then some M else none) else none
  have Ha : H a = if K.lookup a = none then some S else none := if_pos rfl
  have Hm : H sysModules = if K.lookup sysModules = none then some M else none := by
    show (if sysModules = a then _ else _) = _
    rw [if_neg (Ne.symm apart), if_pos rfl]
  have Ho : ∀ b, b ≠ a → b ≠ sysModules → H b = none := fun b h1 h2 => by
    show (if b = a then _ else if b = sysModules then _ else none) = none
    rw [if_neg h1, if_neg h2]
  have okS : ∀ H' : Hp, ObjOk P w H' s.heap a S := fun H' => ⟨script, by rw [List.length_map]; exact few, vals, _, rel, script⟩
  have okM : ∀ H' : Hp, ObjOk P w H' s.heap sysModules M := fun H' => ⟨hm, trivial, ⟨om, hm⟩, fun _ _ _ _ => trivial⟩
  refine held_call kin glob blt boot nolim gens script room F bind H (fun b => ?_) (promise H ?_ ?_) (fun b o z => ?_) (fun b z => ?_) (fun b z => ?_)
  · by_cases h1 : b = a
    · subst h1
      rw [Ha]
      by_cases h2 : K.lookup b = none
      · rw [if_pos h2]
        exact Or.inr ⟨_, _, rfl⟩
      · rw [if_neg h2]
        exact Or.inl rfl
    · by_cases h3 : b = sysModules
      · subst h3
        rw [Hm]
        by_cases h2 : K.lookup sysModules = none
        · rw [if_pos h2]
          exact Or.inr ⟨_, _, rfl⟩
        · rw [if_neg h2]
          exact Or.inl rfl
      · exact Or.inl (Ho b h1 h3)
  · cases h2 : K.lookup sysModules with
    | none => exact Or.inr ⟨om, _, by rw [Hm, if_pos h2]⟩
    | some o => exact Or.inl ⟨o, h2⟩
  · cases h2 : K.lookup a with
    | none => exact Or.inl (Or.inr ⟨_, by rw [Ha, if_pos h2]⟩)
    | some o =>
      have e := kin a o h2
      rw [script] at e
      cases e
      exact Or.inr ⟨_, vals.toArray, _, h2, rfl, rfl, rfl, by rw [List.size_toArray, many]; exact few, by simpa using rel⟩
  · by_cases h1 : b = a
    · subst h1
      rw [Ha] at z
      by_cases h2 : K.lookup b = none
      · rw [if_pos h2] at z
        cases z
        exact okS H
      · rw [if_neg h2] at z
        cases z
    · by_cases h3 : b = sysModules
      · subst h3
        rw [Hm] at z
        by_cases h2 : K.lookup sysModules = none
        · rw [if_pos h2] at z
          cases z
          exact okM H
        · rw [if_neg h2] at z
          cases z
      · rw [Ho b h1 h3] at z
        cases z
  · by_cases h1 : b = a
    · exact Or.inl h1
    · by_cases h3 : b = sysModules
      · exact Or.inr h3
      · exact absurd (Ho b h1 h3) z
  · by_cases h1 : b = a
    · subst h1
      rw [Ha] at z
      by_cases h2 : K.lookup b = none
      · exact h2
      · rw [if_neg h2] at z
        exact absurd rfl z
    · by_cases h3 : b = sysModules
      · subst h3
        rw [Hm] at z
        by_cases h2 : K.lookup sysModules = none
        · exact h2
        · rw [if_neg h2] at z
          exact absurd rfl z
      · exact absurd (Ho b h1 h3) z
end
/-- the goal that the head leaves, from the law's promise; the modules' dict is in sight -/
theorem walk_y {l : PySem.W.OpenLaw} {n k : Nat} {q : Program} {loose : List Str} {XP : (Str → Option Value) → Heap → Prop} {YP : World → Heap → Prop} {d : DefRec} {K : Params → PySem.W.Frag} {sp : PySem.W.Frag → Sp} {x : Str}
    (hn : l.most = some n) (few : n ≤ sizeLine) (hdf : d.params.defaults = []) (himp : importsNone q = true) (room : Room k callerA) (hY : ∀ (w : World) (h : Heap), YP w h → (K w.params).In h)
    (F : ∀ (w : World) (mg : Str → Option Value) (fa : Addr) (h : Heap), (K w.params).In h → h.Ns mainGlobals mg → mg d.name = some (.ref fa) →
      ∃ fd : FuncData, (∀ (s : Shared) (u : Value), BindsTo s fd ⟨[u], []⟩ [(x, u)]) ∧ ∀ base : Heap, (K w.params).In base → base.Ns mainGlobals mg → FnG l.prog w (K w.params) mg base k fa fd [x] (sp (K w.params)))
    (promise : ∀ (K : PySem.W.Frag) (H : Hp) (a : Addr) (ns : List Int), ns.length ≤ n → Sy K H → SqL K H a (ns.map V.int) → sp K [.ref a] H (fun v _ => v = .bl true) E0) :
    PySem.W.WalkO q loose XP YP l.row.toRowW d [] (fun f vs => PySem.call f vs) := by
  refine Att.attach_call hn hdf fun w s₀ s₁ mg mb fa o pm cd doc a vs ns G Y ho hd hcd hmg hobj hints hlen hg => ?_
  have kin := hY w _ Y
  obtain ⟨fd, bind, made⟩ := F w mg fa _ kin G.T.g hmg
  obtain ⟨mm, hmm, _⟩ := (G.T.seer himp).mods
  exact law_y kin G.T.g G.T.b G.T.builtins G.T.nolimit hmm hg hobj hints (Nat.le_trans hlen few) room made bind fun H hs hS => promise _ H a ns hlen hs hS
end NL

/-! len of an object by its own __len__; dict of a tuple of pairs, of a zip of two tuples -/
namespace NL
open PySem L2 Evl
/-! ### len(x), the class has __len__ -/
def rLenO (C : Addr) (sp : Sp) (Z : XK) : List V → Hp → VK → Prop := fun xs H Q =>
  ∃ a dx fs, xs = [.ref a] ∧ H a = some (.ins C dx fs) ∧ sp [.ref a] H (fun v H' => ∃ i : Int, v = .int i ∧ (0 ≤ i ∧ i < 2 ^ 63) ∧ Q (.int i) H') Z
theorem call_lenO {X : Cx} {CX : CXT} {k : Nat} {C f : Addr} {fd : FuncData} {ps : List Str} {sp : Sp} {Z : XK}
    (F : FnOk X.prog X.w X.K X.mg X.base CX k f fd ps sp) (hs : PySem.W.findIn X.K (.ref C) "__len__" = some (some (.ref f)))
    (hf : PySem.W.isFn X.K (.ref f) = true) (hr : Room (k + 1) X.A) (hb : Binds X.K fd ps []) (hx : Passes CX X Z) :
    CallR X (.builtin "len") (rLenO C sp Z) := by
  intro pins s σ H xs us Q I rv h
  obtain ⟨a, dx, fs, rfl, ha, q⟩ := h
  obtain ⟨u, rfl, ru⟩ := vals1 rv
  cases ru
  obtain ⟨mA, J, _⟩ := ins_get I.hok ha
  obtain ⟨od, J, _⟩ := J.look
  obtain ⟨m, hF⟩ := I.fr
  refine PySem.W.len_K hF I.ok.mod.kin J hs hf ?_
  have l1 : ([V.ref a] : List V).length = ps.length := F.len _ _ _ _ q
  refine wpAny_call (codeAny_mono (F.run X.A.in1 X.stack s H ⟨[.ref a], []⟩ [.ref a] [.ref a] _ Z hr.in1 I.env0.in1 ?_ (.cons rfl .nil) q) fun r s' hq => ?_)
  · have := hb s [.ref a] I.kIn (by simpa using l1)
    simpa using this
  · cases r with
    | error e => exact hx pins σ H s e s' I hq
    | ok fl =>
      cases fl with
      | ret w =>
        obtain ⟨z, H', I', rz, i, ez, hi, q'⟩ := I.after hq
        subst ez
        obtain ⟨t, rfl⟩ := rz
        exact ⟨hi, .int i, H', I'.tok _, ⟨_, rfl⟩, q'⟩
      | next => exact hq.elim
      | brk => exact hq.elim
      | cont => exact hq.elim
/-! ### tuple(l): an object that is known to have no dict of its own -/
def rTupF (K : PySem.W.Frag) : List V → Hp → VK → Prop := fun xs H Q =>
  ∃ p ys, xs = [.ref p] ∧ SqL K H p ys ∧ ∀ (l : Addr) (o : Obj), H l = none → o.dict = none → Q (.ref l) (upd H l (.frz o (.tup ys)))
theorem call_tupF {X : Cx} {K : PySem.W.Frag} (hK : X.K = K) : CallR X (.type "tuple") (rTupF K) := by
  subst hK
  intro pins s σ H xs us Q I rv h
  obtain ⟨p, ys, rfl, hq, q⟩ := h
  obtain ⟨u, rfl, ru⟩ := vals1 rv
  cases ru
  obtain ⟨its, ri, pl, hz⟩ := I.list hq
  have hlen := ri.length
  refine PySem.call_tuple_list pl.isList (fun hp kp => ?_) (by simp only [List.size_toArray]; omega)
  have J : Inv X pins σ H { s with heap := hp } := I.kept (t' := s.toks) kp
  exact ⟨.ref hp.objs.size, _, J.laid (o := .frz { cls := .type "tuple", data := .seq its.toArray } (.tup ys)) (t' := s.toks) (fun b o e => Heap.get?_push_of_some _ e) (Nat.le_refl _)
    ⟨Heap.get?_push_size _ rfl, hz, its, ri, PyProof.Rows.IsTup.new _ _⟩, rfl, q _ _ (J.hok.fresh (Nat.le_refl _)) rfl⟩
/-! ### dict(t), t a tuple of pairs -/
def rDictT (K : PySem.W.Frag) : List V → Hp → VK → Prop := fun xs H Q =>
  ∃ (a : Addr) (o : Obj) (ps : List Addr) (kvs : List (Key × V)), xs = [.ref a] ∧ H a = some (.frz o (.tup (ps.map V.ref))) ∧ o.dict = none ∧ Paired (fun p kv => SqT K H p [kV kv.1, kv.2]) ps kvs ∧
    ∀ p, H p = none → Q (.ref p) (upd H p (.dK (mergeK [] kvs)))
theorem prs_of {X : Cx} {pins : List (Addr × Obj)} {σ : L2.St} {H : Hp} {s : Shared} (I : Inv X pins σ H s) : ∀ {ps : List Addr} {kvs : List (Key × V)}, Paired (fun p kv => SqT X.K H p [kV kv.1, kv.2]) ps kvs →
    ∃ (us : List (Value × Value)) (rs : List (Key × Value)), KV kvs rs ∧ us.length = ps.length ∧ rs.length = ps.length ∧
      ∀ (j : Nat) (k v : Value), us[j]? = some (k, v) → (∃ p, ps[j]? = some p ∧ s.heap.IsTuple p #[k, v]) ∧ ∃ r, rs[j]? = some (r, v) ∧ (mixKind X.prog X.w).is r k = true
  | _, _, .nil => ⟨[], [], .nil, rfl, rfl, fun j k v e => by simp at e⟩
  | _, _, .cons (a := p) (b := kv) h t => by
    obtain ⟨us, rs, c, l1, l2, ih⟩ := prs_of I t
    obtain ⟨its, rv, ht, _⟩ := I.tuple h
    obtain ⟨u, y, ei, ru, ry⟩ := vals2 rv
    subst ei
    refine ⟨(u, y) :: us, (kv.1, y) :: rs, .cons ⟨rfl, ry⟩ c, by simp [l1], by simp [l2], fun j k v e => ?_⟩
    cases j with
    | zero =>
      cases Option.some.inj e
      exact ⟨⟨p, rfl, ht⟩, kv.1, rfl, kV_is ru⟩
    | succ j => exact ih j k v (by simpa using e)
theorem call_dictT {X : Cx} {K : PySem.W.Frag} (hK : X.K = K) (hcalm : X.calm = true) : CallR X (.type "dict") (rDictT K) := by
  subst hK
  intro pins s σ H xs us Q I rv h
  obtain ⟨a, o, ps, kvs, rfl, hq, hdn, hp, q⟩ := h
  obtain ⟨u, rfl, ru⟩ := vals1 rv
  cases ru
  obtain ⟨e1, hz, its, ri, o', e2, hc, n, hdat⟩ := I.hok a _ hq
  rw [e1] at e2
  cases e2
  have hits := refs_at ri
  subst hits
  rw [List.length_map] at hz
  obtain ⟨prs, rs, rel, l1, l2, hpr⟩ := prs_of I hp
  have sz : ((ps.map Value.ref).toArray).size = prs.length := by simp [l1]
  refine PySem.call_dict_pairs (knd := mixKind X.prog X.w) (kvs := rs) (PySem.PairArg.tuple a (ps.map Value.ref).toArray (fun j => ps.getD j 0) prs) (I.ok.hd hcalm) ⟨⟨o, n, e1, hc, hdn, hdat⟩, sz, fun j k v e => ?_⟩ ⟨by rw [l1, l2], fun i k v e => (hpr i k v e).2⟩ (by rw [l1]; exact hz) fun hp' tk hd' kp => ?_
  · obtain ⟨⟨p, hj, ht⟩, _⟩ := hpr j k v e
    refine ⟨?_, Or.inl ?_⟩
    · simp [hj, List.getD]
    · simpa [hj, List.getD] using ht
  · have hm : (s.heap.objs.size == sysModules) = false := beq_eq_false_iff_ne.mpr (Nat.ne_of_gt I.big)
    have hlen : (mergeK [] kvs).length ≤ sizeLine := by
      have z := length_mergeK kvs []
      rw [List.length_nil, rel.length, l2] at z
      omega
    exact ⟨.ref s.heap.objs.size, _, I.laid (o := .dK (mergeK [] kvs)) (t' := tk) (fun b ob e => kp b ob (by simp) e) (Nat.le_refl _) ⟨hlen, hm, merged [] rs, KV.merge rel .nil, hd'⟩, rfl, q _ (I.hok.fresh (Nat.le_refl _))⟩
/-! ### dict(zip(s, t)), s and t tuples -/
section
variable {prog : Program} {w : World} {A : Around} {E : Value → Shared → Prop} {s : Shared}
/-- a further step of a zip whose last tuple is still held: by the steps of the two iterators -/
theorem zipH_go {c ti out T i j : Addr} {f : Bool} {oT : Obj} {Q : Fin → Shared → Prop} (hc : IsZipHeld s.heap c ti out T f) (hT : s.heap.get? T = some oT) (hi : IsPair s.heap ti (.ref i) (.ref j))
    (st : ∀ g, IsZipHeld g c ti out T true → Heap.SameBut c s.heap g → wpAny (model prog w) A (Builtin.SmallTypes.nextOf (.ref i)) (fun x s2 =>
      wpAny (model prog w) A (Builtin.SmallTypes.nextOf (.ref j)) (fun y s3 => Q (.done (.ret (.ref s3.heap.objs.size))) { s3 with heap := s3.heap.push { cls := .type "tuple", data := .seq #[x, y] } }) E s2) E { s with heap := g }) :
    wpAny (model prog w) A (Builtin.«zip.__next__» ⟨[.ref c], []⟩) Q E s := by
  show wpAny _ _ (field (.ref c) 2 >>= _) _ _ _
  refine wpAny_bind (wpAny_field hc rfl (x := .bool false) rfl ?_)
  show wpAny _ _ (field (.ref c) 3 >>= _) _ _ _
  refine wpAny_bind (wpAny_field hc rfl (x := .ref ti) rfl (wpAny_bind (wpAny_seqItems hi rfl ?_)))
  show wpAny _ _ (Builtin.SmallTypes.ownedTupleIsFree (.ref c) >>= _) _ _ _
  refine wpAny_bind (wpAny_tupleHeld_zip hc hT fun g hg sg => ?_)
  simp only [if_false, Bool.false_eq_true]
  refine wpAny_bind ?_
  rw [← Array.forIn_toList]
  simp only [List.forIn_nil, List.forIn_cons]
  refine wpAny_bind (wpAny_bind (wpAny_holding (wpAny_bind (wpAny_mono (st g hg sg) (fun u1 s2 k => wpAny_pure (wpAny_pure ?_)) fun _ _ z => z))))
  refine wpAny_bind (wpAny_bind (wpAny_holding (wpAny_bind (wpAny_mono k (fun u2 s3 k' => wpAny_pure (wpAny_pure (wpAny_pure ?_))) fun _ _ z => z))))
  show wpAny _ _ (newTuple [u1, u2] >>= _) _ _ _
  exact wpAny_bind (wpAny_newTuple (wpAny_pure k'))
/-- the same for next(..) -/
theorem zipH_next {c ti out T i j a b : Addr} {f : Bool} {oT : Obj} {m : Nat} {xs ys : Array Value} {Q : Option Value → Shared → Prop} (hh : A.handled = none) (D : ZipApart c ti out i j a b)
    (hc : IsZipHeld s.heap c ti out T f) (hT : s.heap.get? T = some oT) (hi : IsPair s.heap ti (.ref i) (.ref j)) (h1 : s.heap.IsTupleIter i a m) (h2 : s.heap.IsTupleIter j b m) (p1 : s.heap.IsTuple a xs) (p2 : s.heap.IsTuple b ys)
    (hx : ∀ x y, xs[m]? = some x → ys[m]? = some y → ∀ g, IsZipHeld g c ti out T true → g.IsTupleIter i a (m + 1) → g.IsTupleIter j b (m + 1) → IsPair g s.heap.objs.size x y →
      (∀ d o, d ≠ c → d ≠ i → d ≠ j → s.heap.get? d = some o → g.get? d = some o) → Q (some (.ref s.heap.objs.size)) { s with heap := g })
    (he : xs[m]? = none ∨ ys[m]? = none → ∀ g, (∀ d o, d ≠ c → d ≠ i → d ≠ j → s.heap.get? d = some o → g.get? d = some o) → Q none { s with heap := g }) : wpAny (model prog w) A (pyNext (.ref c)) Q E s := by
  have ty : s.TypeIs (.ref c) "zip" := ⟨_, hc, rfl⟩
  have stop : ∀ (g : Heap) (e : Addr), (xs[m]? = none ∨ ys[m]? = none) → (∀ d o, d ≠ c → d ≠ i → d ≠ j → s.heap.get? d = some o → g.get? d = some o) → (∃ o, g.get? e = some o ∧ o.cls = .type "StopIteration") →
      wpAny (model prog w) A (isInstance (.ref e) (.type "StopIteration") >>= fun b => if b = true then pure none else throw (Value.ref e)) Q E { s with heap := g } := fun g e hn k z => by
    obtain ⟨o, ho, hcl⟩ := z
    refine wpAny_bind (wpAny_isInstance (T := "StopIteration") (b := true) ⟨o, ho, hcl⟩ isSubtype_stop ?_)
    exact wpAny_pure (he hn g k)
  unfold pyNext
  refine wpAny_bind (wpAny_attempt (wpAny_callSpecial?_slot (name := Str.ofString "__next__") ty F.slot_zip_next (wpAny_call_entry F.slot_zip_next ty F.entry_zip_next (zipH_go hc hT hi fun g1 hg1 sg1 => ?_) (F.args_zip_next_1 _))))
  have q1 := h1.extBut sg1.extBut D.i1z
  have t1 := p1.extBut sg1.extBut D.l1z
  cases ex : xs[m]? with
  | none => exact RZ.nextOf_tuple_end hh q1 t1 ex fun g2 e k z => stop g2 e (Or.inl ex) (fun d o d1 d2 d3 v => k _ _ d2 (sg1.extBut _ _ d1 v)) z
  | some x =>
    refine RZ.nextOf_tuple_item q1 t1 ex fun g2 q2 sg2 => ?_
    have u2 := (h2.extBut sg1.extBut D.i2z).extBut sg2.extBut D.i12.symm
    have t2 := (p2.extBut sg1.extBut D.l2z).extBut sg2.extBut D.l2i1
    cases ey : ys[m]? with
    | none => exact RZ.nextOf_tuple_end hh u2 t2 ey fun g3 e k z => stop g3 e (Or.inr ey) (fun d o d1 d2 d3 v => k _ _ d3 (sg2.extBut _ _ d2 (sg1.extBut _ _ d1 v))) z
    | some y =>
      refine RZ.nextOf_tuple_item u2 t2 ey fun g3 u3 sg3 => ?_
      have sz : g3.objs.size = s.heap.objs.size := by rw [sg3.1, sg2.1, sg1.1]
      refine ⟨_, rfl, wpAny_pure ?_⟩
      have pr : IsPair (g3.push { cls := .type "tuple", data := .seq #[x, y] }) g3.objs.size x y := Heap.get?_push_size _ rfl
      rw [sz] at pr
      have hq := hx x y ex ey (g3.push { cls := .type "tuple", data := .seq #[x, y] }) (Heap.get?_push_of_some _ (sg3.extBut _ _ D.i2z.symm (sg2.extBut _ _ D.i1z.symm hg1))) ((q2.extBut sg3.extBut D.i12).at fun o z => Heap.get?_push_of_some _ z) (u3.at fun o z => Heap.get?_push_of_some _ z) pr
        fun d o d1 d2 d3 z => Heap.get?_push_of_some _ (sg3.extBut _ _ d3 (sg2.extBut _ _ d2 (sg1.extBut _ _ d1 z)))
      rw [← sz] at hq
      exact hq
/-- what a zip of two tuples is ahead of its step m: no tuple handed out yet, or one that is held -/
def ZipS (c ti out i j a b d : Addr) (xs ys : Array Value) (m : Nat) (h : Heap) : Prop :=
  IsPair h ti (.ref i) (.ref j) ∧ h.IsTupleIter i a m ∧ h.IsTupleIter j b m ∧ h.IsTuple a xs ∧ h.IsTuple b ys ∧
    ((IsZip h c ti out .none ∧ ∃ x y, IsPair h out x y) ∨ ∃ T f oT, IsZipHeld h c ti out T f ∧ h.get? T = some oT ∧ T ≠ c ∧ T ≠ i ∧ T ≠ j ∧ T ≠ d)
def Zip0 (c ti out i j a b : Addr) (xs ys : Array Value) (h : Heap) : Prop :=
  IsPair h ti (.ref i) (.ref j) ∧ h.IsTupleIter i a 0 ∧ h.IsTupleIter j b 0 ∧ h.IsTuple a xs ∧ h.IsTuple b ys ∧ IsZip h c ti out .none ∧ ∃ x y, IsPair h out x y
theorem ZipS.src {c ti out i j a b d : Addr} {xs ys : Array Value} (hh : A.handled = none) (D : ZipApart c ti out i j a b) (hsz : xs.size = ys.size)
    (n1 : ti ≠ d) (n2 : i ≠ d) (n3 : j ≠ d) (n4 : a ≠ d) (n5 : b ≠ d) (n6 : c ≠ d) (n7 : out ≠ d) :
    PairSrc prog w A c d [c, out, i, j] xs.size (fun m k v => xs[m]? = some k ∧ ys[m]? = some v) (ZipS c ti out i j a b d xs ys) where
  off := by
    simp only [List.mem_cons, List.not_mem_nil, or_false, not_or]
    exact ⟨n6.symm, n7.symm, n2.symm, n3.symm⟩
  frame := by
    rintro m h g ⟨z1, z2, z3, z4, z5, z6⟩ k
    refine ⟨k _ _ n1 z1, z2.at fun o e => k _ o n2 e, z3.at fun o e => k _ o n3 e, z4.at fun o e => k _ o n4 e, z5.at fun o e => k _ o n5 e, ?_⟩
    rcases z6 with ⟨z, x, y, e⟩ | ⟨T, f, oT, z, e, r⟩
    · exact Or.inl ⟨k _ _ n6 z, x, y, k _ _ n7 e⟩
    · exact Or.inr ⟨T, f, oT, k _ _ n6 z, k _ _ r.2.2.2 e, r⟩
  item := by
    rintro m s Q E hm ⟨z1, z2, z3, z4, z5, z6⟩ hd hQ
    have ex := Array.getElem?_eq_getElem hm
    have ey := Array.getElem?_eq_getElem (show m < ys.size by omega)
    have far : ∀ {q : Addr} {o : Obj}, s.heap.get? q = some o → s.heap.objs.size ≠ q := fun e => Nat.ne_of_gt (Heap.lt_size e)
    have f2 : s.heap.objs.size ≠ i := let ⟨_, e, _⟩ := z2; far e
    have f3 : s.heap.objs.size ≠ j := let ⟨_, e, _⟩ := z3; far e
    have out4 : ∀ {q : Addr}, q ∉ [c, out, i, j] → q ≠ c ∧ q ≠ out ∧ q ≠ i ∧ q ≠ j := fun h => by simpa using h
    rcases z6 with ⟨z, x, y, e⟩ | ⟨T, f, oT, z, e, r⟩
    · refine RZ.pyNext_zipT_item D z z1 e z2 z3 z4 z5 ex ey fun g a1 a2 a3 a4 a5 a6 k => ?_
      refine hQ _ _ _ g s.toks ⟨ex, ey⟩ (Or.inl ⟨_, a5, rfl, _, rfl⟩) ⟨k _ _ D.TIz D.TITO D.TIi1 D.TIi2 z1, a3, a4, z4.at fun o q => k _ o D.l1z D.l1TO D.l1i1 D.l1i2 q, z5.at fun o q => k _ o D.l2z D.l2TO D.l2i1 D.l2i2 q, Or.inr ⟨_, false, _, a1, a5, far z, f2, f3, Nat.ne_of_gt hd⟩⟩ fun q o hq e => ?_
      have v := out4 hq
      exact k q o v.1 v.2.1 v.2.2.1 v.2.2.2 e
    · refine zipH_next hh D z e z1 z2 z3 z4 z5 (fun x y ex' ey' g a1 a3 a4 a5 k => ?_) fun hn => ?_
      · refine hQ _ _ _ g s.toks ⟨ex', ey'⟩ (Or.inl ⟨_, a5, rfl, _, rfl⟩) ⟨k _ _ D.TIz D.TIi1 D.TIi2 z1, a3, a4, z4.at fun o q => k _ o D.l1z D.l1i1 D.l1i2 q, z5.at fun o q => k _ o D.l2z D.l2i1 D.l2i2 q, Or.inr ⟨T, true, oT, a1, k _ _ r.1 r.2.1 r.2.2.1 e, r⟩⟩ fun q o hq e => ?_
        have v := out4 hq
        exact k q o v.1 v.2.2.1 v.2.2.2 e
      · rw [ex, ey] at hn
        rcases hn with hn | hn <;> cases hn
  done := by
    rintro s Q E ⟨z1, z2, z3, z4, z5, z6⟩ hQ
    have ex : xs[xs.size]? = none := Array.getElem?_eq_none (Nat.le_refl _)
    have out4 : ∀ {q : Addr}, q ∉ [c, out, i, j] → q ≠ c ∧ q ≠ out ∧ q ≠ i ∧ q ≠ j := fun h => by simpa using h
    rcases z6 with ⟨z, x, y, e⟩ | ⟨T, f, oT, z, e, r⟩
    · refine RZ.pyNext_zipT_end hh D z z1 e z2 z3 z4 z5 (Or.inl ex) fun g k => hQ g s.toks fun q o hq e => ?_
      have v := out4 hq
      exact k q o v.1 v.2.1 v.2.2.1 v.2.2.2 e
    · refine zipH_next hh D z e z1 z2 z3 z4 z5 (fun x y ex' => by rw [ex] at ex'; cases ex') fun _ g k => hQ g s.toks fun q o hq e => ?_
      have v := out4 hq
      exact k q o v.1 v.2.2.1 v.2.2.2 e
theorem zip_arg {c ti out i j a b : Addr} {xs ys : Array Value} (D : ZipApart c ti out i j a b) (hsz : xs.size = ys.size) :
    PairArg prog w "zip" c [c, ti, out, i, j, a, b] [c, out, i, j] xs.size (fun m k v => xs[m]? = some k ∧ ys[m]? = some v) (Zip0 c ti out i j a b xs ys) where
  type := fun s ⟨_, _, _, _, _, z, _⟩ => ⟨_, z, rfl⟩
  notDict := by decide
  keep := by
    rintro h g ⟨z1, z2, z3, z4, z5, z, x, y, e⟩ k
    exact ⟨k _ _ z1, z2.at fun o e => k _ o e, z3.at fun o e => k _ o e, z4.at fun o e => k _ o e, z5.at fun o e => k _ o e, k _ _ z, x, y, k _ _ e⟩
  there := by
    rintro h ⟨z1, ⟨_, z2, _⟩, ⟨_, z3, _⟩, ⟨_, z4, _⟩, ⟨_, z5, _⟩, z, x, y, e⟩ q hq
    simp only [List.mem_cons, List.not_mem_nil, or_false] at hq
    rcases hq with rfl | rfl | rfl | rfl | rfl | rfl | rfl
    · exact ⟨_, z⟩
    · exact ⟨_, z1⟩
    · exact ⟨_, e⟩
    · exact ⟨_, z2⟩
    · exact ⟨_, z3⟩
    · exact ⟨_, z4⟩
    · exact ⟨_, z5⟩
  sub := by
    intro q hq
    simp only [List.mem_cons, List.not_mem_nil, or_false] at hq ⊢
    rcases hq with rfl | rfl | rfl | rfl <;> simp
  noKeys := fun A s Q E hA ⟨_, _, _, _, _, z, _⟩ h => getAttrOr_miss_zip z rfl rfl rfl zip_no_keys (by decide +kernel) hA h
  iter := by
    rintro A s d Q E hA ⟨z1, z2, z3, z4, z5, z, x, y, e⟩ hd hn h
    simp only [List.mem_cons, List.not_mem_nil, or_false, not_or] at hn
    obtain ⟨n1, n2, n3, n4, n5, n6, n7⟩ := hn
    exact wpAny_pyIter_zip z (h c [c, out, i, j] _ s.heap s.toks (ZipS.src hA D hsz (Ne.symm n2) (Ne.symm n4) (Ne.symm n5) (Ne.symm n6) (Ne.symm n7) (Ne.symm n1) (Ne.symm n3)) ⟨z1, z2, z3, z4, z5, Or.inl ⟨z, x, y, e⟩⟩ (fun _ _ q => q) fun _ q => Or.inl q)
end
/-- dict(zip(s, t)): s as many keys as t has values -/
def tDictZ (K : PySem.W.Frag) (ta : TA) : TE := fun σ H Q => ta σ H fun vs H1 => ∃ (a b : Addr) (ks : List Key) (ys : List V), vs = [.ref a, .ref b] ∧ SqT K H1 a (ks.map kV) ∧ SqT K H1 b ys ∧ ks.length = ys.length ∧
  ∀ p, H1 p = none → Q (.ref p) (upd H1 p (.dK (mergeK [] (ks.zip ys))))
theorem kv_zip {P : Program} {w : World} : ∀ {ks : List Key} {ys : List V} {us rs : List Value}, Vals (ks.map kV) us → Vals ys rs → ks.length = ys.length → KV (ks.zip ys) (ks.zip rs) ∧ ∀ (m : Nat) (k v : Value), us[m]? = some k → rs[m]? = some v → ∃ r, (ks.zip rs)[m]? = some (r, v) ∧ (mixKind P w).is r k = true
  | [], ys, us, rs, r1, r2, hl => by
    cases ys with
    | nil => exact ⟨.nil, fun m k v e => by cases r1; simp at e⟩
    | cons y ys => cases hl
  | k :: ks, ys, us, rs, r1, r2, hl => by
    cases r1 with
    | cons q1 r1 =>
      cases r2 with
      | nil => cases hl
      | cons q2 r2 =>
        obtain ⟨i1, i2⟩ := kv_zip (P := P) (w := w) r1 r2 (Nat.succ.inj hl)
        refine ⟨.cons ⟨rfl, q2⟩ i1, fun m k' v e1 e2 => ?_⟩
        cases m with
        | zero =>
          cases Option.some.inj e1
          cases Option.some.inj e2
          exact ⟨k, rfl, kV_is q1⟩
        | succ m => exact i2 m k' v (by simpa using e1) (by simpa using e2)
theorem pe_dictZ {X : Cx} {K : PySem.W.Frag} (hK : X.K = K) {e e2 : Expr} {ta : TA} {p p2 q pos : Pos} (hg : Gl X "dict") (hm : X.mg "dict" = none) (hg2 : Gl X "zip") (hm2 : X.mg "zip" = none) (ha : PA X [e, e2] ta) (hc : X.calm = true := by rfl)
    (hs : starEach [e, e2] X.env = (false, eval e X.env) :: starEach [e2] X.env := by rfl) (hpl : (backTo q (starEach [e2] X.env)).any (·.1) = false := by rfl) :
    PE X (.Call (.Name "dict" p) [.Call (.Name "zip" p2) [e, e2] [] q] [] pos) (tDictZ K ta) := by
  subst hK
  refine ⟨fun pins s σ H Q I h => ?_⟩
  refine PyProof.Rows.Call_ (ld_blt I hg hm PyProof.Rows.boot_dict ?_)
  refine PyProof.Rows.callWith_type1 (PyProof.Rows.args_cons ?_ rfl) rfl rfl
  refine PyProof.Rows.Call_ (ld_blt I hg2 hm2 PyProof.Rows.boot_zip (PyProof.Rows.callWith_type1 (thn (ha.run q pins s σ H _ I h) fun us s1 ⟨vs, H1, I1, r1, q1⟩ => ?_) hs hpl))
  obtain ⟨a, b, ks, ys, ex, hqx, hqy, hl, q1⟩ := q1
  subst ex
  obtain ⟨u1, u2, eu, v1, v2⟩ := vals2 r1
  subst eu
  cases v1
  cases v2
  obtain ⟨its, rv, p1, hz⟩ := I1.tuple hqx
  obtain ⟨its2, rv2, p2, _⟩ := I1.tuple hqy
  obtain ⟨o1, ho1, _⟩ := id p1
  obtain ⟨o2, ho2, _⟩ := id p2
  obtain ⟨rel, hits⟩ := kv_zip (P := X.prog) (w := X.w) rv rv2 hl
  have l1 := rv.length
  have l2 := rv2.length
  rw [List.length_map] at l1 hz
  refine RZ.call_zipT (show s1.heap.IsTuple a its.toArray from p1) (show s1.heap.IsTuple b its2.toArray from p2) fun h' hz' hTI hTO h1 h2 hsz hk => ?_
  refine PyProof.Rows.args_nil ?_
  have D := PySem.W.ktu_apart s1.heap.objs.size a b (Heap.lt_size ho1) (Heap.lt_size ho2)
  refine PySem.call_dict_pairs (s := { s1 with heap := h' }) (knd := mixKind X.prog X.w) (kvs := ks.zip its2) (zip_arg (xs := its.toArray) (ys := its2.toArray) D (by simp only [List.size_toArray]; omega)) (I1.ok.hd hc)
    ⟨hTI, h1, h2, (show s1.heap.IsTuple a its.toArray from p1).at fun o e => hk _ o e, (show s1.heap.IsTuple b its2.toArray from p2).at fun o e => hk _ o e, hz', _, _, hTO⟩
    ⟨by rw [List.length_zip, List.size_toArray]; omega, fun m k v e => hits m k v (by simpa using e.1) (by simpa using e.2)⟩ (by rw [List.size_toArray]; omega) fun g tk hd kp => ?_
  have big : s1.heap.objs.size ≤ h'.objs.size := by omega
  have hm : (h'.objs.size == sysModules) = false := beq_eq_false_iff_ne.mpr (Nat.ne_of_gt (Nat.lt_of_lt_of_le I1.big big))
  have hlen : (mergeK [] (ks.zip ys)).length ≤ sizeLine := by
    have z := length_mergeK (ks.zip ys) []
    rw [List.length_nil, List.length_zip] at z
    omega
  have old : ∀ c o, s1.heap.get? c = some o → g.get? c = some o := fun c o z => kp c o (by
    have lt := Heap.lt_size z
    simp only [List.mem_cons, List.not_mem_nil, or_false, not_or]
    exact ⟨Nat.ne_of_lt (Nat.lt_of_lt_of_le lt (Nat.le_add_right _ _)), Nat.ne_of_lt (Nat.lt_of_lt_of_le lt (Nat.le_add_right _ _)), Nat.ne_of_lt lt, Nat.ne_of_lt (Nat.lt_of_lt_of_le lt (Nat.le_add_right _ _))⟩) (hk c o z)
  exact ⟨.ref h'.objs.size, _, I1.laid (o := .dK (mergeK [] (ks.zip ys))) (t' := tk) old big ⟨hlen, hm, merged [] (ks.zip its2), KV.merge rel .nil, hd⟩, rfl, q1 _ (I1.hok.fresh big)⟩
end NL

/-! a caught exception that is kept in a local behind its suite -/
namespace NL
open PySem L2 Evl
/-- an exception of the class cls at a, its own dict at d; raised or not -/
def XcO (cls : Value) (d : Option Addr) (a : Addr) : HO := .ext fun h => ∃ (ob : Obj) (vs : Array Value), h.get? a = some ob ∧ Zc cls d ob ∧ ob.data = .fields vs
theorem xcO_ok {P : Program} {w : World} {H : Hp} {h : Heap} {a : Addr} {cls : Value} {d : Option Addr} {ob : Obj} {vs : Array Value} (e : h.get? a = some ob) (z : Zc cls d ob) (dt : ob.data = .fields vs) : ObjOk P w H h a (XcO cls d a) :=
  ⟨⟨ob, vs, e, z, dt⟩, ⟨ob, e⟩, fun _ _ ⟨o, v, q, r⟩ k => ⟨o, v, k o q, r⟩⟩
/-- an object that is there, untracked, and was not there at the def's entry: from now on it is tracked -/
theorem track {X : Cx} {pins : List (Addr × Obj)} {σ : L2.St} {H : Hp} {s : Shared} {a : Addr} {o : HO} (I : Inv X pins σ H s) (n0 : X.s_0.heap.get? a = none) (na : H a = none) (nl : a ≠ X.env.locals)
    (nc : ∀ x c, X.env.cells.lookup x = some c → c ≠ a) (np : ∀ p ∈ X.pn ++ pins, p.1 ≠ a) (new : ObjOk X.prog X.w (upd H a o) s.heap a o) : Inv X pins σ (upd H a o) s := by
  have old : ∀ {b : Addr} {ob : Obj}, X.s_0.heap.get? b = some ob → b ≠ a := fun {b ob} e z => by
    subst z
    rw [n0] at e
    cases e
  have far : ∀ {b : Addr} {u : HO}, H b = some u → upd H a o b = some u := fun {b u} e => by
    rw [upd_ne (ne_of_none e na)]
    exact e
  refine ⟨I.ok, I.os, I.bare, ⟨I.base.keep, I.base.slot, ?_, I.base.there, ?_, ?_, ?_⟩, I.loc, I.cell, ?_, ?_, ?_, ?_, I.len⟩
  · intro b ob e n hx
    rw [upd_ne (old e)]
    exact I.base.free b ob e n hx
  · exact fun b xs e => far (I.base.tups b xs e)
  · exact fun b ob u e => far (I.base.frzs b ob u e)
  · intro b ps e
    obtain ⟨m, q⟩ := I.base.tbls b ps e
    exact ⟨m, far q⟩
  · rw [upd_ne (Ne.symm nl)]
    exact I.free
  · intro x c e
    rw [upd_ne (nc x c e)]
    exact I.freeC x c e
  · intro p hp
    obtain ⟨q1, q2, q3⟩ := I.pin p hp
    exact ⟨q1, by rw [upd_ne (np p hp)]; exact q2, q3⟩
  · intro b u e
    by_cases z : b = a
    · subst z
      rw [upd_same] at e
      cases e
      exact new
    · rw [upd_ne z] at e
      exact (I.hok b u e).stay (fun _ _ _ q => q) (fun _ q => far q) fun _ _ q => far q
/-- 'except x as n: suite', the exception tracked behind the suite: slot i is n's -/
def wKp (K : PySem.W.Frag) (c : Value) (i : Nat) (ts : Addr → Value → Option Addr → TS) (Wo : WX) (D : Ends) : WX := fun cls d σ H =>
  ∃ b, PySem.W.exmOne K cls c = some b ∧
    (b = true → ∀ a, H a = none → ts a cls d { nx := fun σ' H' => D.nx (σ'.set i none) (upd H' a (XcO cls d a)), rt := fun _ _ => False, bk := fun _ _ => False, ct := fun _ _ => False } (σ.set i (some (.ref a))) H) ∧
    (b = false → Wo cls d σ H)
theorem ps_try_keep {X : Cx} {x n : Str} {c : Value} {i : Nat} {body suite : List Stmt} {b0 : Stmt} {np_ pos pos' : Pos} {tb : WX → TS} {ts : Addr → Value → Option Addr → TS} {Wo : WX}
    (hst : X.stack = X.env :: X.outer) (hfr : X.env.frame = some X.env.locals) (hex : X.ex = []) (hN : X.N.Nodup) (hi : X.N[i]? = some n) (hln : X.env.kindOf n = some .local) (hc : Names X x c) (tk : Takes X Wo)
    (hb : ∀ (W : WX) (pn : List (Addr × Obj)) (xe : Value → Shared → Prop), Takes (X.tr pn xe) W → PassesOwn (model X.prog X.w) X.A X.env xe → PSs (X.tr pn xe) body (tb W))
    (hsu : ∀ (a : Addr) (oe : Obj) (cls : Value) (d : Option Addr) (pn : List (Addr × Obj)), Zc cls d oe → (∃ vs, oe.data = .fields vs) → PSs (X.suite a ((a, oe) :: pn)) (b0 :: suite) (ts a cls d)) :
    PS X (.Try body [.ExceptHandler (some (.Name x np_)) (some n) (b0 :: suite) pos'] [] [] pos) (fun D σ H => tb (wKp X.K c i ts Wo D) D σ H) := by
  refine ⟨fun pins s σ H D I h => wpAny_Try_except ?_⟩
  have okX := I.ok
  have frm : X.A.frames = some (X.env :: X.outer) := okX.frames.trans (congrArg some hst)
  refine wpAny_mono ((hb _ (X.pn ++ pins) _ (fun u s' hx => ?_) PassesOwn.looking).run [] s σ H D (I.toTry _) h) (fun f s1 hsp => ?_) (fun e s1 he => he)
  rotate_left
  · cases f with
    | next =>
      obtain ⟨σ1, H1, J1, q1⟩ := hsp
      exact wpAny_execs_nil ⟨σ1, H1, J1.ofTry okX, q1⟩
    | brk =>
      obtain ⟨σ1, H1, J1, q1⟩ := hsp
      exact ⟨σ1, H1, J1.ofTry okX, q1⟩
    | cont =>
      obtain ⟨σ1, H1, J1, q1⟩ := hsp
      exact ⟨σ1, H1, J1.ofTry okX, q1⟩
    | ret u =>
      obtain ⟨v1, σ1, H1, J1, r1, q1⟩ := hsp
      exact ⟨v1, σ1, H1, J1.ofTry okX, r1, q1⟩
  obtain ⟨a, B, sI, pins', σ', H', cls, d, rfl, J', nb, up, sky, na, hos, ag, b, hb1, hyes, hno⟩ := hx
  have J : Inv X pins σ' H' sI := J'.ofTry okX
  have sk : Sky B (X.env :: X.outer) a (Zc cls d) X.env.locals s'.heap := hst ▸ sky
  refine Sky.land Zc.steady frm hfr sk fun g3 fly up3 => ?_
  have J3 : Inv X pins σ' H' { s' with heap := g3 } := J.landed nb fly.1 (up.trans up3) hos ag
  obtain ⟨ob3, vs3, at3, z3, dt3⟩ := fly.there
  have out : a ∉ frs (X.env :: X.outer) := fun hm => by
    obtain ⟨_, ob, e, nf⟩ := fly.2.2.1.mem hm
    rw [at3] at e
    cases e
    exact nf _ dt3
  have nl : a ≠ X.env.locals := fun z => out (List.mem_filterMap.mpr ⟨X.env, List.mem_cons_self, z ▸ hfr⟩)
  have nf : a ∉ X.fs := fun hm => by
    obtain ⟨e, he, q⟩ := List.mem_filterMap.mp hm
    exact out (List.mem_filterMap.mpr ⟨e, List.mem_cons_of_mem _ he, q⟩)
  -- it is new
  have gone : sI.heap.get? a = none := by
    cases e : sI.heap.get? a with
    | none => rfl
    | some ob =>
      have z := nb a ob e (by rw [hst]; exact out)
      rw [fly.2.1] at z
      cases z
  have n0 : X.s_0.heap.get? a = none := by
    cases e : X.s_0.heap.get? a with
    | none => rfl
    | some ob =>
      obtain ⟨ob', z⟩ := J.base.there a ob e (by rw [hex]; exact fun z => nomatch z)
      rw [gone] at z
      cases z
  have nc : ∀ y q, X.env.cells.lookup y = some q → q ≠ a := fun y q e z => by
    obtain ⟨v, ob, w1, _⟩ := J.cell y q e
    rw [z, gone] at w1
    cases w1
  have np : ∀ q ∈ X.pn ++ pins, q.1 ≠ a := fun q hq z => by
    have w1 := (J.pin q hq).1
    rw [z, gone] at w1
    cases w1
  -- is it of that class
  have S3 := J3.suite at3 dt3 na nl nf
  refine wpAny_handleBy_cons (codeAny_handlers_test ?_) (fun q => by cases q)
  have lt : PySem.W.Looks (model X.prog X.w) g3 (typeOf (.ref a)) cls := fun A Q E s k q => wpAny_typeOf_ref (k _ _ at3) (z3.1 ▸ q)
  have lm := PySem.W.exm_one (M := model X.prog X.w) J3.kIn lt hb1
  have named : ∀ {Q : Value → Shared → Prop} {E : Value → Shared → Prop}, Q c { s' with heap := g3 } → wpAny (model X.prog X.w) (X.A.mark (some (.ref a))) (eval (.Name x np_) X.env) Q E { s' with heap := g3 } := fun {Q E} q => by
    obtain ⟨hg, hdb, hm | ⟨hm, hv, hnn⟩⟩ := hc
    · exact ld_glob (X := X.suite a _) S3 hg hm q hdb
    · exact ld_blt (X := X.suite a _) S3 hg hm hv q hnn hdb
  refine named (lm.here ?_)
  cases b with
  | true =>
    refine codeAny_handlers_suite_as (HandSPX.lands_againZ fly fun g4 fly4 up4 => ?_)
    have J4 : Inv X pins σ' H' { s' with heap := g4 } := J.landed nb fly4.1 ((up.trans up3).trans up4) hos ag
    obtain ⟨ob4, vs4, at4, z4, dt4⟩ := fly4.there
    have S4 := J4.suite at4 dt4 na nl nf
    refine store_ok (X := X.suite a _) (v := .ref a) S4 hN hi (.inl hln) rfl (fun s5 S5 => ?_) (.inr hln)
    refine wpAny_mono ((hsu a ob4 cls d (X.pn ++ pins) z4 ⟨_, dt4⟩).run [] s5 _ H' _ S5 (hyes rfl a na)) (fun f s6 hsp => ?_) (fun _ _ z => z.elim)
    cases f with
    | next =>
      obtain ⟨σ6, H6, S6, q6⟩ := hsp
      have p6 := S6.pin (a, ob4) (List.mem_append_left _ List.mem_cons_self)
      exact gone_ok (track (S6.unsuite okX) n0 p6.2.1 nl nc np (xcO_ok p6.1 z4 dt4)) hN hi hln fun s7 J7 => ⟨_, _, J7, q6⟩
    | brk =>
      obtain ⟨_, _, _, q6⟩ := hsp
      exact q6.elim
    | cont =>
      obtain ⟨_, _, _, q6⟩ := hsp
      exact q6.elim
    | ret u =>
      obtain ⟨_, _, _, _, _, q6⟩ := hsp
      exact q6.elim
  | false =>
    refine wpAny_handleBy_nil ?_
    obtain ⟨_, _, _, ob, vs, T, _, _, at0, _, dt0, e1, _⟩ := id fly
    unfold PySem.passOn
    refine wpAny_bind (wpAny_field at0 dt0 e1 ?_)
    rw [if_neg (fun z => by cases z)]
    have on : wpAny (model X.prog X.w) X.A (setFlight (.ref a) X.env.frame) (fun _ s4 => wpAny (model X.prog X.w) X.A (throw (.ref a) : Sem Flow) (SP X pins D) X.xe s4) X.xe { s' with heap := g3 } := by
      rw [hfr]
      exact HandSPX.setFlight_upZ fly fun g4 fly4 up4 => wpAny_throw (tk _ _ ⟨a, B, sI, pins, σ', H', cls, d, rfl, J, nb, (up.trans up3).trans up4, Or.inr (Or.inr (hst ▸ fly4)), na, hos, ag, hno rfl⟩)
    first
      | exact wpAny_bind on
      | exact wpAny_bind (wpAny_pure (wpAny_bind on))
/-- e.f, e a tracked exception of the class C with its own dict -/
def tXk (C : Addr) (f : Str) (te : TE) : TE := fun σ H Q => te σ H fun x H1 => ∃ (a dd : Addr) (fs : List (Str × V)) (v : V), x = .ref a ∧ H1 a = some (XcO (.ref C) (some dd) a) ∧ H1 dd = some (.xd fs) ∧ fs.lookup f = some v ∧ Q v H1
theorem pe_xk {X : Cx} {C : Addr} {e : Expr} {te : TE} {pos : Pos} {f : Str} (T : XfC X.K C) (hno : PySem.W.findIn X.K (.ref C) f = some none) (he : PE X e te) (hb : attributeBase e f X.env (eval e X.env) = eval e X.env := by rfl) :
    PE X (.Attribute e f pos) (tXk C f te) := by
  refine ⟨fun pins s σ H Q I h => attr_of hb (thn (he.run pins s σ H _ I h) fun u s1 hh => ?_)⟩
  obtain ⟨x, H1, I1, rx, a, dd, fs, v, rfl, ha, hdd, hl, q⟩ := hh
  cases rx
  obtain ⟨⟨ob, vs, at1, z, dt⟩, _⟩ := I1.hok a _ ha
  obtain ⟨mA, ns, hr⟩ := I1.hok dd _ hdd
  obtain ⟨od, ho, look⟩ := lookIn_ns ns
  obtain ⟨u, hu, ru⟩ := RelO.some_of (v := v) (o := mA f) (hl ▸ hr f)
  have J : PySem.W.InstAt s1.heap a ob C (some od) := ⟨at1, z.1, by unfold PySem.W.notCls; rw [dt] <;> rfl, z.2 ▸ ho⟩
  exact HandSPX.exc_get I1.kIn J T.ga T.gg T.exC (PySem.W.findObj_own T.hdC hno rfl (by rw [look, hu])) (handed_of ru) ⟨v, H1, I1.tok _, ru, q⟩
/-! ### an exception that is made and kept as a value -/
def tExc (t : L2.St → Hp → XK → Prop) : TE := fun σ H Q => t σ H fun cls d H' => ∀ a, H' a = none → Q (.ref a) (upd H' a (XcO cls d a))
theorem pe_ofMk {X : Cx} {e : Expr} {t : L2.St → Hp → XK → Prop} (h : PMk X e t) : PE X e (tExc t) := by
  refine ⟨fun pins s σ H Q I q => thn (h pins s σ H _ I q) fun u s1 hu => ?_⟩
  obtain ⟨a, ob, vs, sI, H1, cls, d, rfl, J, k, n0, at1, z, dt, _, na, os, ag, _, q1⟩ := hu
  have new : ObjOk X.prog X.w (upd H1 a (XcO cls d a)) s1.heap a (XcO cls d a) := xcO_ok at1 z dt
  exact ⟨.ref a, _, J.call' (ch := []) os (Un.laidN k n0 na) (J.hok.laidN k na new) ag (fun b hb => nomatch hb), rfl, q1 a na⟩
/-- C(), C an own exception class without an own __init__ -/
theorem pmk_own0 {X : Cx} {C : Addr} {bmB : List Value} {B newId initId : String} {x : Str} {p pos : Pos} (F : ExcBaseFacts B newId initId bmB) (q : PySem.W.excIn X.K C bmB newId = true) (gC : X.mg x = some (.ref C)) (kC : PySem.W.keepIn X.K (.ref C) = true)
    (r : Raises X (.ref C)) (hg : Gl X x) (hdb : (x == ("__debug__" : Str)) = false := by decide) : PMk X (.Call (.Name x p) [] [] pos) (fun _ H Q => Q (.ref C) none H) := by
  intro pins s σ H Q I told
  refine wpAny_Call_Name_kw (ld_glob I hg gC ?_ hdb)
  refine PySem.W.callWith_K0 I.kIn kC ?_
  change wpAny _ _ (call (.ref C) []) _ _ _
  obtain ⟨hp, g, dr, tk, os⟩ := s
  obtain ⟨_, _, _, _, _, _, _, _, _, _, _, _, _, _, _, _, _, at0, names, noInit, tail⟩ := exc_obj I.kIn q
  refine wpAny_call_exc_subT F tail at0 names noInit (fun h1 e made => ?_) (by change 0 ≤ sizeLine; omega)
  exact mk_of I made r told (I.hok.gone made.new)
/-! ### isinstance of a tracked exception, whatever its dict -/
structure XcC (K : PySem.W.Frag) (C : Addr) : Prop extends ExcC K C where
  kC : PySem.W.keepIn K (.ref C) = true
  tyC : PySem.W.typeIn K (.ref C) = some (.type "type")
theorem XcC.xf {K : PySem.W.Frag} {C : Addr} (c : XcC K C) : XfC K C := ⟨c.hg, c.hk, c.hs, c.hd⟩
theorem XcC.exm {K : PySem.W.Frag} {C : Addr} {cls : Value} {b : Bool} (c : XcC K C) (h : PySem.W.subIn K cls (.ref C) = some b) : PySem.W.exmOne K cls (.ref C) = some b := PySem.W.exm_ref c.hs c.hd c.tyC h
theorem XcC.kit {K : PySem.W.Frag} {C D : Addr} {b : Bool} (c : XcC K C) (h : PySem.W.subIn K (.ref D) (.ref C) = some b) (hb : D = C → b = true) : PySem.W.kitOne K (.ref D) (.ref C) = some b := by
  unfold PySem.W.kitOne
  by_cases e : ((Value.ref D == Value.ref C) = true)
  · rw [if_pos e, hb (Value.ref.inj (beq_iff_eq.mp e))]
  · rw [if_neg e]
    obtain ⟨cd, q, _⟩ := PySem.W.any_some c.hd
    have e2 : ((PySem.W.clsIn K C).isSome && PySem.W.typeIn K (.ref C) == some (.type "type")) = true := by rw [q, c.tyC] <;> rfl
    change (if ((PySem.W.clsIn K C).isSome && PySem.W.typeIn K (.ref C) == some (.type "type")) = true then PySem.W.subIn K (.ref D) (.ref C) else none) = some b
    rw [if_pos e2]
    exact h
section
open PySem.W PySem.Calls PyProof.Rows
variable {prog : Program} {w : World} {A : Around} {E : Value → Shared → Prop} {s : Shared} {K : Frag} {x D : Addr} {ox : Obj} {od : Option Obj}
theorem cls_found (c : ExcC K D) : findObj K D od "__class__" = some (.bind (.builtin "getset_descriptor.__get__") (.builtin "object.__class__")) := by
  obtain ⟨cd, e, _⟩ := any_some c.hd
  unfold findObj
  rw [e, Option.bind_some, c.ha, Option.bind_some]
  simp [c.hn, c.ht]
theorem cls_asked {Q : Option Value → Shared → Prop} (c : ExcC K D) (X : K.In s.heap) (I : InstAt s.heap x ox D od) (q : Q (some (.ref D)) { s with toks := s.toks + 1 }) : wpAny (model prog w) A (getAttr? (.ref x) "__class__") Q E s := by
  obtain ⟨h0, g, d, t, os⟩ := s
  have ty := I.type (M := model prog w)
  have by1 := looks_findIn (M := model prog w) X c.hg
  have by2 := looks_findIn (M := model prog w) X c.hk
  have by3 := looks_find (M := model prog w) X I (cls_found c)
  have isE : Looks (model prog w) h0 (isInstance (.ref x) (.type "BaseException")) true := ty.andThen (looks_subIn X c.hs)
  have n1 : (Value.builtin "BaseException.__getattribute__" == Value.builtin "object.__getattribute__") = false := by decide +kernel
  have n2 : (onTheHeap (Value.ref D) && Value.builtin "BaseException.__getattribute__" == Value.builtin "object.__getattribute__") = false := by rw [n1]; rfl
  have n3 : (false && onTheHeap (Value.builtin "BaseException.__getattribute__")) = false := rfl
  unfold getAttr? getAttrBy? getAttrBy
  refine wpAny_bind (wpAny_mkText (wpAny_bind (wpAny_attempt (wpAny_holding (wpAny_bind (ty.at (wpAny_bind (by1.at ?_))))))))
  change wpAny _ _ (if (onTheHeap (Value.ref D) && Value.builtin "BaseException.__getattribute__" == Value.builtin "object.__getattribute__") = true then _ else _) _ _ _
  rw [n2, if_neg (by decide)]
  unfold getAttrByItsOwn hookBefore
  refine wpAny_bind ?_
  have on : onTheHeap (Value.ref D) = true := rfl
  rw [if_pos on]
  refine by2.at ?_
  refine wpAny_bind (wpAny_attempt (wpAny_holding ?_))
  unfold callGetattribute
  rw [n3, if_neg (by decide)]
  unfold boundAndCalled
  rw [PySem.F.excAttr_ValueError.ga.bind (.ref x)]
  refine wpAny_bind (wpAny_pure ?_)
  change wpAny _ _ (call (.builtin "BaseException.__getattribute__") [.ref x, .str "__class__" t]) _ _ _
  refine wpAny_call (codeAny_call_builtin PySem.F.excAttr_ValueError.ga.plain PySem.F.entry_bexc_ga ?_)
  refine @check_slot (model prog w) _ _ ⟨h0, g, d, t + 1, os⟩ "BaseException.__getattribute__" "BaseException" "__getattribute__" (.ref x) [.str "__class__" t] [] _ (by decide +kernel) (by decide +kernel) isE (PySem.F.args_bexc_ga (.ref x) (.str "__class__" t)) ?_
  unfold Builtin.«object.__getattribute__»
  refine wpAny_bind (wpAny_of_eq (a := ((Value.ref x : Value), [Value.str "__class__" t])) (by first | rfl | (simp only [slotArgs]; rfl)) ?_)
  refine wpAny_bind (wpAny_pure (wpAny_bind (ty.at (wpAny_bind (by3.at ?_)))))
  change wpAny _ _ (holding [Value.builtin "object.__class__"] (call (.builtin "getset_descriptor.__get__") [.builtin "object.__class__", .ref x, .ref D]) >>= ret) _ _ _
  refine wpAny_bind (wpAny_holding (wpAny_call (class_get (s := ⟨h0, g, d, t + 1, os⟩) (ox := ox) (od := od) X I c.hm ?_)))
  refine wpAny_pure ?_
  change wpAny _ _ (handedOut (.ref D)) _ _ _
  rw [handedOut_of (v := .ref D) rfl]
  first | exact wpAny_pure (wpAny_pure q) | exact wpAny_pure q | exact wpAny_pure (wpAny_bind (wpAny_pure (wpAny_pure q)))
theorem kitx_xc (c : ExcC K D) : KitX K (.ref x) (.ref D) (fun h => InstAt h x ox D od) where
  ty := fun _ _ _ I => I.type
  it := fun _ _ X _ => by
    obtain ⟨_, at0, _⟩ := any_some c.hd
    unfold clsIn at at0
    split at at0
    · rename_i ho
      intro _ _ _ _ k q
      unfold isType loadHead
      exact wpAny_bind (wpAny_loadPart (k _ _ (X _ _ ho)) (wpAny_pure q))
    · cases at0
  ne := fun h tp _ _ _ _ X at1 => by
    obtain ⟨_, at0, _⟩ := any_some c.hd
    refine Bool.eq_false_iff.mpr fun q => ?_
    have e : D = tp := Value.ref.inj (beq_iff_eq.mp q)
    subst e
    unfold clsIn at at0
    split at at0
    · rename_i ho
      cases (X _ _ ho).symm.trans at1
    · cases at0
  ca := fun X I k => cls_asked c X I k
end
/-- at a: an exception of the class at D; d: its dict -/
def XcAt (H : Hp) (a D : Addr) (d : Option Addr) : Prop := H a = some (XcO (.ref D) d a) ∧ ∀ dd, d = some dd → ∃ fs, H dd = some (.xd fs)
theorem XcAt.ex {H H' : Hp} {a D : Addr} {d : Option Addr} (h : XcAt H a D d) (e : Ex H H') : XcAt H' a D d := ⟨e _ _ h.1, fun dd hd => by
  obtain ⟨fs, q⟩ := h.2 dd hd
  exact ⟨fs, e _ _ q⟩⟩
theorem inst_xc {X : Cx} {pins : List (Addr × Obj)} {σ : L2.St} {H : Hp} {s : Shared} {a D : Addr} {d : Option Addr} (I : Inv X pins σ H s) (h : XcAt H a D d) : ∃ (ob : Obj) (od : Option Obj), PySem.W.InstAt s.heap a ob D od := by
  obtain ⟨⟨ob, vs, at1, z, dt⟩, _⟩ := I.hok a _ h.1
  have nc : PySem.W.notCls ob = true := by unfold PySem.W.notCls; rw [dt] <;> rfl
  cases d with
  | none => exact ⟨ob, none, at1, z.1, nc, by rw [z.2]; trivial⟩
  | some dd =>
    obtain ⟨fs, hd⟩ := h.2 dd rfl
    obtain ⟨mA, ns, hr⟩ := I.hok dd _ hd
    obtain ⟨od, ho, look⟩ := lookIn_ns ns
    exact ⟨ob, some od, at1, z.1, nc, z.2 ▸ ho⟩
def rIsX (K : PySem.W.Frag) : List V → Hp → VK → Prop := fun xs H Q => ∃ (a D : Addr) (d : Option Addr) (c : V) (u : Value) (b : Bool), xs = [.ref a, c] ∧ XcAt H a D d ∧ XcC K D ∧ ClsV c u ∧ PySem.W.kitOne K (.ref D) u = some b ∧ Q (.bl b) H
def rIsXT (K : PySem.W.Frag) : List V → Hp → VK → Prop := fun xs H Q => ∃ (a D tp : Addr) (d : Option Addr) (cs : List V) (us : List Value) (b : Bool), xs = [.ref a, .ref tp] ∧ XcAt H a D d ∧ XcC K D ∧ H tp = some (.tup cs) ∧ Paired ClsV cs us ∧ PySem.W.kitAny K (.ref D) us = some b ∧ Q (.bl b) H
section
variable {X : Cx} {K : PySem.W.Frag}
theorem isxK (h : X.K = K) : CallR X (.builtin "isinstance") (rIsX K) := by
  subst h
  intro pins s σ H xs us Q I r told
  obtain ⟨a, D, d, c, u, b, rfl, hx, hc, k, e, q⟩ := told
  obtain ⟨u1, u2, rfl, r1, r2⟩ := vals2 r
  have e2 := k.eq r2
  subst e2
  cases (show u1 = Value.ref a from r1)
  obtain ⟨ob, od, J⟩ := inst_xc I hx
  exact PySem.W.kia_one (kitx_xc hc.toExcC) I.kIn J e (fun z => nomatch z) fun tk => ⟨.bl b, H, I.tok tk, rfl, q⟩
theorem isxTK (h : X.K = K) : CallR X (.builtin "isinstance") (rIsXT K) := by
  subst h
  intro pins s σ H xs us Q I r told
  obtain ⟨a, D, tp, d, cs, ws, b, rfl, hx, hc, hT, k, e, q⟩ := told
  obtain ⟨u1, u2, rfl, r1, r2⟩ := vals2 r
  cases (show u1 = Value.ref a from r1)
  cases (show u2 = Value.ref tp from r2)
  obtain ⟨ob, od, J⟩ := inst_xc I hx
  obtain ⟨_, its, rv, o, h1, h2, n, h3⟩ := (show ObjOk X.prog X.w H s.heap tp (.tup cs) from I.hok tp _ hT)
  have e3 := ClsV.all k rv
  subst e3
  obtain ⟨oc, od', dt, sl⟩ := o
  simp only at h2 h3
  subst h2 h3
  exact PySem.W.kia_tup (kitx_xc hc.toExcC) I.kIn J h1 e (fun z => nomatch z) fun tk => ⟨.bl b, H, I.tok tk, rfl, q⟩
end
theorem kit_b {K : PySem.W.Frag} {D : Addr} {T : String} {b : Bool} (m : PySem.W.kitMeta T = true) (h : PySem.W.subIn K (.ref D) (.type T) = some b) : PySem.W.kitOne K (.ref D) (.type T) = some b := by
  unfold PySem.W.kitOne
  have ne : ¬ ((Value.ref D == Value.type T) = true) := fun z => by cases beq_iff_eq.mp z
  rw [if_neg ne]
  change (if PySem.W.kitMeta T = true then PySem.W.subIn K (.ref D) (.type T) else none) = some b
  rw [if_pos m]
  exact h
/-! ### __init__ of an exception that keeps what it is given -/
def spXInit (K : PySem.W.Frag) (f : Str) : Sp := fun vs H Q _ => ∃ (a C : Addr) (v : V), vs = [.ref a, v] ∧ OexC K C ∧ PySem.W.findIn K (.ref C) f = some none ∧ H a = some (exo a C none) ∧ ∀ dx, H dx = none → dx ≠ a → Q .non (upd (upd H dx (exd dx [(f, v)])) a (exo a C (some dx)))
end NL

/-! z[::-1] of a text; an exception with a field, made -/
namespace NL
open PySem PySem.Spec PyProof.Rows L2 Evl
def revS (z : Str) : Str := ⟨((Builtin.Str.strSliceIndices none none (-1) z.length).filterMap (z.cps[·]?)).toArray⟩
theorem revS_mem {z : Str} {c : Nat} (h : c ∈ (revS z).cps.toList) : c ∈ z.cps.toList := by
  unfold revS at h
  simp only [List.toList_toArray] at h
  obtain ⟨i, _, e⟩ := List.mem_filterMap.mp h
  obtain ⟨_, e⟩ := Array.getElem?_eq_some_iff.mp e
  rw [← e]
  simp
theorem revS_len (z : Str) : (revS z).length ≤ z.length := by
  have e : (revS z).length = ((Builtin.Str.strSliceIndices none none (-1) z.length).filterMap (z.cps[·]?)).length := by
    unfold revS Str.length
    simp
  rw [e]
  refine Nat.le_trans (List.length_filterMap_le _ _) ?_
  unfold Builtin.Str.strSliceIndices
  exact sliceRange_length_le _ _ _ _ (fun h => absurd h (by decide)) fun _ => ⟨by simp, by simp⟩
def tRevS (te : TE) : TE := fun σ H Q => te σ H fun x H1 => ∃ z, x = .str z ∧ z.length ≤ sizeLine ∧ Q (.str (revS z)) H1
theorem pe_revS {X : Cx} {e : Expr} {te : TE} {k : Nat} {p1 p2 p3 pos : Pos} (he : PE X e te) : PE X (.Subscript e (.Slice none none (some (.UnaryOp .USub (.Constant (.int 1) k p1) p2)) p3) pos) (tRevS te) := by
  constructor
  intro pins s σ H Q I reading
  refine Subscript_ (thn (he.run pins s σ H _ I reading) fun v s1 got => ?_)
  obtain ⟨x, H1, I1, r1, z, rfl, hz, q⟩ := got
  obtain ⟨t, rfl⟩ := r1
  have part : PO X (some (.UnaryOp .USub (.Constant (.int 1) k p1) p2)) (tPart (tUn (rU fun i => .int (-i)) (tC (.int 1)))) := po_some (pe_un un_neg pe_int)
  refine wpAny_Slice (thn (po_none.run pins s1 σ H1 (fun o H2 => o = none ∧ H2 = H1) I1 ⟨rfl, rfl⟩) fun v2 s2 g2 => ?_)
  obtain ⟨o2, H2, I2, p2', rfl, rfl⟩ := g2
  refine thn (po_none.run pins s2 σ H2 (fun o H3 => o = none ∧ H3 = H2) I2 ⟨rfl, rfl⟩) fun v3 s3 g3 => ?_
  obtain ⟨o3, H3, I3, p3', rfl, rfl⟩ := g3
  refine thn (part.run pins s3 σ H3 (fun o H4 => o = some (-1) ∧ H4 = H3) I3 ⟨1, rfl, -1, rfl, rfl, rfl⟩) fun v4 s4 g4 => ?_
  obtain ⟨o4, H4, I4, p4', rfl, rfl⟩ := g4
  cases p2'
  cases p3'
  have I5 : Inv X pins σ H4 { s4 with heap := s4.heap.push { cls := .type "slice", data := .fields #[Value.none, Value.none, v4] } } := I4.kept (t' := s4.toks) fun b ob w => Heap.get?_push_of_some _ w
  obtain ⟨st, hst, est⟩ := IsPart.raw p4'
  change wpAny (model X.prog X.w) X.A (subscriptTail e (.Slice none none (some (.UnaryOp .USub (.Constant (.int 1) k p1) p2)) p3) (.str z t) (.ref s4.heap.objs.size)) (EP X pins σ Q) X.xe { s4 with heap := s4.heap.push { cls := .type "slice", data := .fields #[Value.none, Value.none, v4] } }
  refine tail_any (ops := [.str z t, .ref s4.heap.objs.size]) (typeIs_str _ _ _) F.slot_str_getitem.lookup ?_ (by with_unfolding_all rfl)
  subst hst
  have e1 : (st.map (·.1)).getD 1 = -1 := by rw [est]; rfl
  refine wpAny_getItem_str_slice (l := none) (u := none) (st := st) ?_ (by rw [e1]; rfl) ?_
  · obtain ⟨os, a1, a2, a3⟩ := Heap.IsSliceOf.new s4.heap Value.none Value.none (partValue st)
    exact ⟨os, a1, a2, a3⟩
  unfold sliceMade slicePicked
  rw [e1]
  rw [if_neg (by simp)]
  refine ⟨?_, .str (revS z), H4, I5.tok _, ⟨_, rfl⟩, q⟩
  exact Nat.le_trans (revS_len z) hz
/-- C(v), C keeping what it is given: behind its __init__ -/
theorem mkx {K : PySem.W.Frag} {C : Addr} {f : Str} {v : V} {H : Hp} {Q : XK} (c : OexC K C) (no : PySem.W.findIn K (.ref C) f = some none) (q : ∀ d, H d = none → Q (.ref C) (some d) (upd H d (.xd [(f, v)]))) :
    [v].length ≤ 1000 ∧ ∀ a, H a = none → spXInit K f (.ref a :: ([v] ++ [])) (upd H a (exo a C none))
      (fun u H2 => u = .non ∧ ∃ (d : Addr) (fs : List (Str × V)), H2 a = some (exo a C (some d)) ∧ H2 d = some (exd d fs) ∧ H d = none ∧ Q (.ref C) (some d) (upd (del H2 a) d (.xd fs))) (fun _ _ _ => False) := by
  refine ⟨by simp, fun a na => ⟨a, C, v, rfl, c, no, upd_same, fun dx nd ne => ⟨rfl, dx, [(f, v)], upd_same, ?_, ?_, ?_⟩⟩⟩
  · rw [upd_ne ne]
    exact upd_same
  · rw [upd_ne ne] at nd
    exact nd
  · rw [upd_ne ne] at nd
    have e : upd (del (upd (upd (upd H a (exo a C none)) dx (exd dx [(f, v)])) a (exo a C (some dx))) a) dx (.xd [(f, v)]) = upd H dx (.xd [(f, v)]) := by
      funext b
      by_cases hb : b = dx
      · subst hb
        rw [upd_same, upd_same]
      · rw [upd_ne hb, upd_ne hb]
        by_cases ha : b = a
        · subst ha
          rw [del_same, na]
        · rw [del_ne ha, upd_ne ha, upd_ne hb, upd_ne ha]
    rw [e]
    exact q dx nd
section
variable {K : PySem.W.Frag} {h l : Addr} {σ : L2.St} {H : Hp} {te : TE} {W N D B : Nat}
theorem eg_revS {z : Str} (ha : EK h l (.str z) te σ H) (hz : z.length ≤ 1000000) (az : asc z) (hW : 10 * z.length + 10 ≤ W) (hN : 1 ≤ N) : EG K h l W N D B (tRevS te) σ H := fun H1 k A Q q =>
  ha H1 k A _ fun H2 k2 A2 => ⟨z, rfl, Nat.le_trans hz (by decide), q _ H2 k2 A2 (by
    have hl := revS_len z
    exact (G.str (n := 10 * z.length + 10) (by omega) fun c hc => az c (revS_mem hc)).up hW hN (Nat.zero_le _) (Nat.le_refl _))⟩
end
end NL

namespace K08
open PySem L2 Evl NL
def top (i : Nat) : Stmt := PySem.Challenge.pw_nearlocks_k08_names_that_are_not_there.main.body.getD i (.Pass ⟨0, 0, 0, 0⟩)
abbrev s_path_of : Stmt := top 16
abbrev s_all_in : Stmt := top 17
abbrev s_all_from : Stmt := top 18
abbrev s__law_hand : Stmt := top 20
abbrev s__law_pick : Stmt := top 21
abbrev s__law_of : Stmt := top 22
abbrev s__law_names : Stmt := top 23
abbrev s__law_group : Stmt := top 24
abbrev s__law_sizes : Stmt := top 25
abbrev s__law_plan : Stmt := top 26
abbrev s__law_is_name : Stmt := top 27
abbrev s__law_all : Stmt := top 28
abbrev s__law_marks : Stmt := top 29
abbrev s__law_is_alone : Stmt := top 30
abbrev s__law_made_right : Stmt := top 31
abbrev s__law_near : Stmt := top 32
abbrev s__law_right : Stmt := top 33
abbrev s_law : Stmt := top 34
abbrev s_NoName___init__ : Stmt := inClass (top 2) 0
abbrev s_NoText___init__ : Stmt := inClass (top 3) 0
abbrev N_path_of : List Str := ["plan", "name", "known", "bound", "path"]
theorem sc_path_of : FnScope N_path_of ["plan", "name"] (defScope s_path_of) := ⟨rfl, rfl, rfl, by decide +kernel, rfl, by decide +kernel, by decide +kernel⟩
abbrev N_all_in : List Str := ["plan"]
theorem sc_all_in : FnScope N_all_in ["plan"] (defScope s_all_in) := ⟨rfl, rfl, rfl, by decide +kernel, rfl, by decide +kernel, by decide +kernel⟩
abbrev N_all_from : List Str := ["group", "around", "name", "bound", "members", "rows", "inside", "member"]
theorem sc_all_from : FnScope N_all_from ["group", "around"] (defScope s_all_from) := ⟨rfl, rfl, rfl, by decide +kernel, rfl, by decide +kernel, by decide +kernel⟩
abbrev N__law_hand : List Str := ["_law_script", "_law_seed", "_law_cell"]
theorem sc__law_hand : FnScope N__law_hand ["_law_script"] (defScope s__law_hand) := ⟨rfl, rfl, rfl, by decide +kernel, rfl, by decide +kernel, by decide +kernel⟩
abbrev N__law_pick : List Str := ["_law_hand_here", "_law_many", "_law_mixed", "_law_digit"]
theorem sc__law_pick : FnScope N__law_pick ["_law_hand_here", "_law_many"] (defScope s__law_pick) := ⟨rfl, rfl, rfl, by decide +kernel, rfl, by decide +kernel, by decide +kernel⟩
abbrev N__law_of : List Str := ["_law_hand_here", "_law_some"]
theorem sc__law_of : FnScope N__law_of ["_law_hand_here", "_law_some"] (defScope s__law_of) := ⟨rfl, rfl, rfl, by decide +kernel, rfl, by decide +kernel, by decide +kernel⟩
abbrev N__law_names : List Str := ["_law_hand_here", "_law_stem", "_law_first", "_law_step", "_law_found", "_law_k", "_law_word", "_law_spot"]
theorem sc__law_names : FnScope N__law_names ["_law_hand_here"] (defScope s__law_names) := ⟨rfl, rfl, rfl, by decide +kernel, rfl, by decide +kernel, by decide +kernel⟩
abbrev N__law_group : List Str := ["_law_hand_here", "_law_names_here", "_law_deep", "_law_wide", "_law_bound", "_law_name", "_law_members", "_law_k"]
theorem sc__law_group : FnScope N__law_group ["_law_hand_here", "_law_names_here", "_law_deep", "_law_wide"] (defScope s__law_group) := ⟨rfl, rfl, rfl, by decide +kernel, rfl, by decide +kernel, by decide +kernel⟩
abbrev N__law_sizes : List Str := []
theorem sc__law_sizes : FnScope N__law_sizes [] (defScope s__law_sizes) := ⟨rfl, rfl, rfl, by decide +kernel, rfl, by decide +kernel, by decide +kernel⟩
abbrev N__law_plan : List Str := ["_law_hand_here", "_law_sizes_here", "_law_deep", "_law_wide"]
theorem sc__law_plan : FnScope N__law_plan ["_law_hand_here", "_law_sizes_here"] (defScope s__law_plan) := ⟨rfl, rfl, rfl, by decide +kernel, rfl, by decide +kernel, by decide +kernel⟩
abbrev N__law_is_name : List Str := ["_law_thing", "_law_sign"]
theorem sc__law_is_name : FnScope N__law_is_name ["_law_thing"] (defScope s__law_is_name) := ⟨rfl, rfl, rfl, by decide +kernel, rfl, by decide +kernel, by decide +kernel⟩
abbrev N__law_all : List Str := ["_law_thing", "_law_found", "_law_member", "_law_more"]
theorem sc__law_all : FnScope N__law_all ["_law_thing"] (defScope s__law_all) := ⟨rfl, rfl, rfl, by decide +kernel, rfl, by decide +kernel, by decide +kernel⟩
abbrev N__law_marks : List Str := ["_law_one", "_law_marks_here"]
theorem sc__law_marks : FnScope N__law_marks ["_law_one"] (defScope s__law_marks) := ⟨rfl, rfl, rfl, by decide +kernel, rfl, by decide +kernel, by decide +kernel⟩
abbrev N__law_is_alone : List Str := ["_law_one", "_law_at", "_law_k"]
theorem sc__law_is_alone : FnScope N__law_is_alone ["_law_one", "_law_at"] (defScope s__law_is_alone) := ⟨rfl, rfl, rfl, by decide +kernel, rfl, by decide +kernel, by decide +kernel⟩
abbrev N__law_made_right : List Str := ["_law_hand_here", "_law_thing", "_law_row", "_law_made", "_law_at", "_law_one"]
theorem sc__law_made_right : FnScope N__law_made_right ["_law_hand_here"] (defScope s__law_made_right) := ⟨rfl, rfl, rfl, by decide +kernel, rfl, by decide +kernel, by decide +kernel⟩
abbrev N__law_near : List Str := ["_law_hand_here", "_law_names_here", "_law_name", "_law_some", "_law_thing", "_law_k"]
theorem sc__law_near : FnScope N__law_near ["_law_hand_here", "_law_names_here"] (defScope s__law_near) := ⟨rfl, rfl, rfl, by decide +kernel, rfl, by decide +kernel, by decide +kernel⟩
abbrev N__law_right : List Str := ["_law_plan_here", "_law_names_here", "_law_thing", "_law_caught", "_law_is_there", "e"]
theorem sc__law_right : FnScope N__law_right ["_law_plan_here", "_law_names_here", "_law_thing"] (defScope s__law_right) := ⟨rfl, rfl, rfl, by decide +kernel, rfl, by decide +kernel, by decide +kernel⟩
abbrev N_law : List Str := ["_law_script", "_law_hand_here", "_law_turn", "_law_plan_here", "_law_names_here", "_law_change", "_law_name"]
theorem sc_law : FnScope N_law ["_law_script"] (defScope s_law) := ⟨rfl, rfl, rfl, by decide +kernel, rfl, by decide +kernel, by decide +kernel⟩
abbrev N_NoName___init__ : List Str := ["self", "name"]
theorem sc_NoName___init__ : FnScope N_NoName___init__ ["self", "name"] (defScope s_NoName___init__) := ⟨rfl, rfl, rfl, by decide +kernel, rfl, by decide +kernel, by decide +kernel⟩
abbrev N_NoText___init__ : List Str := ["self", "row"]
theorem sc_NoText___init__ : FnScope N_NoText___init__ ["self", "row"] (defScope s_NoText___init__) := ⟨rfl, rfl, rfl, by decide +kernel, rfl, by decide +kernel, by decide +kernel⟩
/-! ### the facts of the top -/
structure Tp (w : World) (K : PySem.W.Frag) (mg : Str → Option Value) where
  f_path_of : Addr
  d_path_of : FuncData
  F_path_of : Fun K "path_of" "path_of" s_path_of f_path_of d_path_of
  m_path_of : mg "path_of" = some (.ref f_path_of)
  f_all_in : Addr
  d_all_in : FuncData
  F_all_in : Fun K "all_in" "all_in" s_all_in f_all_in d_all_in
  m_all_in : mg "all_in" = some (.ref f_all_in)
  f_all_from : Addr
  d_all_from : FuncData
  F_all_from : Fun K "all_from" "all_from" s_all_from f_all_from d_all_from
  m_all_from : mg "all_from" = some (.ref f_all_from)
  f__law_hand : Addr
  d__law_hand : FuncData
  F__law_hand : Fun K "_law_hand" "_law_hand" s__law_hand f__law_hand d__law_hand
  m__law_hand : mg "_law_hand" = some (.ref f__law_hand)
  f__law_pick : Addr
  d__law_pick : FuncData
  F__law_pick : Fun K "_law_pick" "_law_pick" s__law_pick f__law_pick d__law_pick
  m__law_pick : mg "_law_pick" = some (.ref f__law_pick)
  f__law_of : Addr
  d__law_of : FuncData
  F__law_of : Fun K "_law_of" "_law_of" s__law_of f__law_of d__law_of
  m__law_of : mg "_law_of" = some (.ref f__law_of)
  f__law_names : Addr
  d__law_names : FuncData
  F__law_names : Fun K "_law_names" "_law_names" s__law_names f__law_names d__law_names
  m__law_names : mg "_law_names" = some (.ref f__law_names)
  f__law_group : Addr
  d__law_group : FuncData
  F__law_group : Fun K "_law_group" "_law_group" s__law_group f__law_group d__law_group
  m__law_group : mg "_law_group" = some (.ref f__law_group)
  f__law_sizes : Addr
  d__law_sizes : FuncData
  F__law_sizes : Fun K "_law_sizes" "_law_sizes" s__law_sizes f__law_sizes d__law_sizes
  m__law_sizes : mg "_law_sizes" = some (.ref f__law_sizes)
  f__law_plan : Addr
  d__law_plan : FuncData
  F__law_plan : Fun K "_law_plan" "_law_plan" s__law_plan f__law_plan d__law_plan
  m__law_plan : mg "_law_plan" = some (.ref f__law_plan)
  f__law_is_name : Addr
  d__law_is_name : FuncData
  F__law_is_name : Fun K "_law_is_name" "_law_is_name" s__law_is_name f__law_is_name d__law_is_name
  m__law_is_name : mg "_law_is_name" = some (.ref f__law_is_name)
  f__law_all : Addr
  d__law_all : FuncData
  F__law_all : Fun K "_law_all" "_law_all" s__law_all f__law_all d__law_all
  m__law_all : mg "_law_all" = some (.ref f__law_all)
  f__law_marks : Addr
  d__law_marks : FuncData
  F__law_marks : Fun K "_law_marks" "_law_marks" s__law_marks f__law_marks d__law_marks
  m__law_marks : mg "_law_marks" = some (.ref f__law_marks)
  f__law_is_alone : Addr
  d__law_is_alone : FuncData
  F__law_is_alone : Fun K "_law_is_alone" "_law_is_alone" s__law_is_alone f__law_is_alone d__law_is_alone
  m__law_is_alone : mg "_law_is_alone" = some (.ref f__law_is_alone)
  f__law_made_right : Addr
  d__law_made_right : FuncData
  F__law_made_right : Fun K "_law_made_right" "_law_made_right" s__law_made_right f__law_made_right d__law_made_right
  m__law_made_right : mg "_law_made_right" = some (.ref f__law_made_right)
  f__law_near : Addr
  d__law_near : FuncData
  F__law_near : Fun K "_law_near" "_law_near" s__law_near f__law_near d__law_near
  m__law_near : mg "_law_near" = some (.ref f__law_near)
  f__law_right : Addr
  d__law_right : FuncData
  F__law_right : Fun K "_law_right" "_law_right" s__law_right f__law_right d__law_right
  m__law_right : mg "_law_right" = some (.ref f__law_right)
  f_law : Addr
  d_law : FuncData
  F_law : Fun K "law" "law" s_law f_law d_law
  m_law : mg "law" = some (.ref f_law)
  f_NoName___init__ : Addr
  d_NoName___init__ : FuncData
  F_NoName___init__ : Fun K "__init__" "NoName.__init__" s_NoName___init__ f_NoName___init__ d_NoName___init__
  f_NoText___init__ : Addr
  d_NoText___init__ : FuncData
  F_NoText___init__ : Fun K "__init__" "NoText.__init__" s_NoText___init__ f_NoText___init__ d_NoText___init__
  C_LockError : Addr
  xc_LockError : XcC K C_LockError
  mc_LockError : mg "LockError" = some (.ref C_LockError)
  xp_LockError : PySem.W.excIn K C_LockError [.type "ValueError", .type "Exception", .type "BaseException", .type "object"] "ValueError.__new__" = true
  C_NoName : Addr
  xc_NoName : XcC K C_NoName
  mc_NoName : mg "NoName" = some (.ref C_NoName)
  ox_NoName : OexC K C_NoName
  ii_NoName : PySem.W.findIn K (.ref C_NoName) "__init__" = some (some (.ref f_NoName___init__))
  ti_NoName : PySem.W.typeIn K (.ref f_NoName___init__) = some (.type "function")
  na_NoName_name : PySem.W.findIn K (.ref C_NoName) "name" = some none
  C_NoText : Addr
  xc_NoText : XcC K C_NoText
  mc_NoText : mg "NoText" = some (.ref C_NoText)
  ox_NoText : OexC K C_NoText
  ii_NoText : PySem.W.findIn K (.ref C_NoText) "__init__" = some (some (.ref f_NoText___init__))
  ti_NoText : PySem.W.typeIn K (.ref f_NoText___init__) = some (.type "function")
  na_NoText_row : PySem.W.findIn K (.ref C_NoText) "row" = some none
  C_NoPlan : Addr
  xc_NoPlan : XcC K C_NoPlan
  mc_NoPlan : mg "NoPlan" = some (.ref C_NoPlan)
  xp_NoPlan : PySem.W.excIn K C_NoPlan [.type "ValueError", .type "Exception", .type "BaseException", .type "object"] "ValueError.__new__" = true
  C_NoBook : Addr
  xc_NoBook : XcC K C_NoBook
  mc_NoBook : mg "NoBook" = some (.ref C_NoBook)
  xp_NoBook : PySem.W.excIn K C_NoBook [.type "ValueError", .type "Exception", .type "BaseException", .type "object"] "ValueError.__new__" = true
  C_NoScript : Addr
  xc_NoScript : XcC K C_NoScript
  mc_NoScript : mg "NoScript" = some (.ref C_NoScript)
  xp_NoScript : PySem.W.excIn K C_NoScript [.type "ValueError", .type "Exception", .type "BaseException", .type "object"] "ValueError.__new__" = true
  C_NoBounds : Addr
  xc_NoBounds : XcC K C_NoBounds
  mc_NoBounds : mg "NoBounds" = some (.ref C_NoBounds)
  xp_NoBounds : PySem.W.excIn K C_NoBounds [.type "ValueError", .type "Exception", .type "BaseException", .type "object"] "ValueError.__new__" = true
  C_NotWaiting : Addr
  xc_NotWaiting : XcC K C_NotWaiting
  mc_NotWaiting : mg "NotWaiting" = some (.ref C_NotWaiting)
  xp_NotWaiting : PySem.W.excIn K C_NotWaiting [.type "ValueError", .type "Exception", .type "BaseException", .type "object"] "ValueError.__new__" = true
  C_Uneven : Addr
  xc_Uneven : XcC K C_Uneven
  mc_Uneven : mg "Uneven" = some (.ref C_Uneven)
  xp_Uneven : PySem.W.excIn K C_Uneven [.type "ValueError", .type "Exception", .type "BaseException", .type "object"] "ValueError.__new__" = true
  C_NoStep : Addr
  xc_NoStep : XcC K C_NoStep
  mc_NoStep : mg "NoStep" = some (.ref C_NoStep)
  xp_NoStep : PySem.W.excIn K C_NoStep [.type "ValueError", .type "Exception", .type "BaseException", .type "object"] "ValueError.__new__" = true
  C_TooMany : Addr
  xc_TooMany : XcC K C_TooMany
  mc_TooMany : mg "TooMany" = some (.ref C_TooMany)
  xp_TooMany : PySem.W.excIn K C_TooMany [.type "ValueError", .type "Exception", .type "BaseException", .type "object"] "ValueError.__new__" = true
  C_Endless : Addr
  xc_Endless : XcC K C_Endless
  mc_Endless : mg "Endless" = some (.ref C_Endless)
  xp_Endless : PySem.W.excIn K C_Endless [.type "ValueError", .type "Exception", .type "BaseException", .type "object"] "ValueError.__new__" = true
  C_NoLine : Addr
  xc_NoLine : XcC K C_NoLine
  mc_NoLine : mg "NoLine" = some (.ref C_NoLine)
  xp_NoLine : PySem.W.excIn K C_NoLine [.type "ValueError", .type "Exception", .type "BaseException", .type "object"] "ValueError.__new__" = true
  C_NoHouse : Addr
  xc_NoHouse : XcC K C_NoHouse
  mc_NoHouse : mg "NoHouse" = some (.ref C_NoHouse)
  xp_NoHouse : PySem.W.excIn K C_NoHouse [.type "ValueError", .type "Exception", .type "BaseException", .type "object"] "ValueError.__new__" = true
  z_ValueError : mg "ValueError" = none
  z_all : mg "all" = none
  z_bool : mg "bool" = none
  z_enumerate : mg "enumerate" = none
  z_int : mg "int" = none
  z_isinstance : mg "isinstance" = none
  z_len : mg "len" = none
  z_range : mg "range" = none
  z_repr : mg "repr" = none
  z_str : mg "str" = none
  z_tuple : mg "tuple" = none
  sbs : ((List.range 13).all fun i => (List.range 13).all fun j => PySem.W.subIn K (.ref ([C_NoName, C_NoText, C_NoPlan, C_NoBook, C_NoScript, C_NoBounds, C_NotWaiting, C_Uneven, C_NoStep, C_TooMany, C_Endless, C_NoLine, C_NoHouse].getD i 0)) (.ref ([C_NoName, C_NoText, C_NoPlan, C_NoBook, C_NoScript, C_NoBounds, C_NotWaiting, C_Uneven, C_NoStep, C_TooMany, C_Endless, C_NoLine, C_NoHouse].getD j 0)) == some (decide (i = j))) = true
  sbl : ((List.range 13).all fun i => PySem.W.subIn K (.ref ([C_NoName, C_NoText, C_NoPlan, C_NoBook, C_NoScript, C_NoBounds, C_NotWaiting, C_Uneven, C_NoStep, C_TooMany, C_Endless, C_NoLine, C_NoHouse].getD i 0)) (.ref C_LockError) == some true) = true
  sbv : ((List.range 13).all fun i => PySem.W.subIn K (.ref ([C_NoName, C_NoText, C_NoPlan, C_NoBook, C_NoScript, C_NoBounds, C_NotWaiting, C_Uneven, C_NoStep, C_TooMany, C_Endless, C_NoLine, C_NoHouse].getD i 0)) (.type "ValueError") == some true) = true
theorem b_path_of {w : World} {K : PySem.W.Frag} {mg : Str → Option Value} (T : Tp w K mg) : Binds K T.d_path_of ["plan", "name"] [] := T.F_path_of.binds fun _ _ _ _ _ _ us hl => match us, hl with | [_, _], _ => rfl
theorem b_all_in {w : World} {K : PySem.W.Frag} {mg : Str → Option Value} (T : Tp w K mg) : Binds K T.d_all_in ["plan"] [] := T.F_all_in.binds fun _ _ _ _ _ _ us hl => match us, hl with | [_], _ => rfl
theorem b_all_from {w : World} {K : PySem.W.Frag} {mg : Str → Option Value} (T : Tp w K mg) : Binds K T.d_all_from ["group", "around"] [] := T.F_all_from.binds fun _ _ _ _ _ _ us hl => match us, hl with | [_, _], _ => rfl
theorem b__law_hand {w : World} {K : PySem.W.Frag} {mg : Str → Option Value} (T : Tp w K mg) : Binds K T.d__law_hand ["_law_script"] [] := T.F__law_hand.binds fun _ _ _ _ _ _ us hl => match us, hl with | [_], _ => rfl
theorem b__law_pick {w : World} {K : PySem.W.Frag} {mg : Str → Option Value} (T : Tp w K mg) : Binds K T.d__law_pick ["_law_hand_here", "_law_many"] [] := T.F__law_pick.binds fun _ _ _ _ _ _ us hl => match us, hl with | [_, _], _ => rfl
theorem b__law_of {w : World} {K : PySem.W.Frag} {mg : Str → Option Value} (T : Tp w K mg) : Binds K T.d__law_of ["_law_hand_here", "_law_some"] [] := T.F__law_of.binds fun _ _ _ _ _ _ us hl => match us, hl with | [_, _], _ => rfl
theorem b__law_names {w : World} {K : PySem.W.Frag} {mg : Str → Option Value} (T : Tp w K mg) : Binds K T.d__law_names ["_law_hand_here"] [] := T.F__law_names.binds fun _ _ _ _ _ _ us hl => match us, hl with | [_], _ => rfl
theorem b__law_group {w : World} {K : PySem.W.Frag} {mg : Str → Option Value} (T : Tp w K mg) : Binds K T.d__law_group ["_law_hand_here", "_law_names_here", "_law_deep", "_law_wide"] [] := T.F__law_group.binds fun _ _ _ _ _ _ us hl => match us, hl with | [_, _, _, _], _ => rfl
theorem b__law_sizes {w : World} {K : PySem.W.Frag} {mg : Str → Option Value} (T : Tp w K mg) : Binds K T.d__law_sizes [] [] := T.F__law_sizes.binds fun _ _ _ _ _ _ us hl => match us, hl with | [], _ => rfl
theorem b__law_plan {w : World} {K : PySem.W.Frag} {mg : Str → Option Value} (T : Tp w K mg) : Binds K T.d__law_plan ["_law_hand_here", "_law_sizes_here"] [] := T.F__law_plan.binds fun _ _ _ _ _ _ us hl => match us, hl with | [_, _], _ => rfl
theorem b__law_is_name {w : World} {K : PySem.W.Frag} {mg : Str → Option Value} (T : Tp w K mg) : Binds K T.d__law_is_name ["_law_thing"] [] := T.F__law_is_name.binds fun _ _ _ _ _ _ us hl => match us, hl with | [_], _ => rfl
theorem b__law_all {w : World} {K : PySem.W.Frag} {mg : Str → Option Value} (T : Tp w K mg) : Binds K T.d__law_all ["_law_thing"] [] := T.F__law_all.binds fun _ _ _ _ _ _ us hl => match us, hl with | [_], _ => rfl
theorem b__law_marks {w : World} {K : PySem.W.Frag} {mg : Str → Option Value} (T : Tp w K mg) : Binds K T.d__law_marks ["_law_one"] [] := T.F__law_marks.binds fun _ _ _ _ _ _ us hl => match us, hl with | [_], _ => rfl
theorem b__law_is_alone {w : World} {K : PySem.W.Frag} {mg : Str → Option Value} (T : Tp w K mg) : Binds K T.d__law_is_alone ["_law_one", "_law_at"] [] := T.F__law_is_alone.binds fun _ _ _ _ _ _ us hl => match us, hl with | [_, _], _ => rfl
theorem b__law_made_right {w : World} {K : PySem.W.Frag} {mg : Str → Option Value} (T : Tp w K mg) : Binds K T.d__law_made_right ["_law_hand_here"] [] := T.F__law_made_right.binds fun _ _ _ _ _ _ us hl => match us, hl with | [_], _ => rfl
theorem b__law_near {w : World} {K : PySem.W.Frag} {mg : Str → Option Value} (T : Tp w K mg) : Binds K T.d__law_near ["_law_hand_here", "_law_names_here"] [] := T.F__law_near.binds fun _ _ _ _ _ _ us hl => match us, hl with | [_, _], _ => rfl
theorem b__law_right {w : World} {K : PySem.W.Frag} {mg : Str → Option Value} (T : Tp w K mg) : Binds K T.d__law_right ["_law_plan_here", "_law_names_here", "_law_thing"] [] := T.F__law_right.binds fun _ _ _ _ _ _ us hl => match us, hl with | [_, _, _], _ => rfl
theorem b_law {w : World} {K : PySem.W.Frag} {mg : Str → Option Value} (T : Tp w K mg) : Binds K T.d_law ["_law_script"] [] := T.F_law.binds fun _ _ _ _ _ _ us hl => match us, hl with | [_], _ => rfl
theorem b_NoName___init__ {w : World} {K : PySem.W.Frag} {mg : Str → Option Value} (T : Tp w K mg) : Binds K T.d_NoName___init__ ["self", "name"] [] := T.F_NoName___init__.binds fun _ _ _ _ _ _ us hl => match us, hl with | [_, _], _ => rfl
theorem b_NoText___init__ {w : World} {K : PySem.W.Frag} {mg : Str → Option Value} (T : Tp w K mg) : Binds K T.d_NoText___init__ ["self", "row"] [] := T.F_NoText___init__.binds fun _ _ _ _ _ _ us hl => match us, hl with | [_, _], _ => rfl
section
variable {w : World} {K : PySem.W.Frag} {mg : Str → Option Value}
def Tp.cs (T : Tp w K mg) : List Addr := [T.C_NoName, T.C_NoText, T.C_NoPlan, T.C_NoBook, T.C_NoScript, T.C_NoBounds, T.C_NotWaiting, T.C_Uneven, T.C_NoStep, T.C_TooMany, T.C_Endless, T.C_NoLine, T.C_NoHouse]
theorem Tp.sub (T : Tp w K mg) {i j : Nat} (hi : i < 13) (hj : j < 13) : PySem.W.subIn K (.ref (T.cs.getD i 0)) (.ref (T.cs.getD j 0)) = some (decide (i = j)) :=
  beq_iff_eq.mp (List.all_eq_true.mp (List.all_eq_true.mp T.sbs i (List.mem_range.mpr hi)) j (List.mem_range.mpr hj))
theorem Tp.subL (T : Tp w K mg) {i : Nat} (hi : i < 13) : PySem.W.subIn K (.ref (T.cs.getD i 0)) (.ref T.C_LockError) = some true := beq_iff_eq.mp (List.all_eq_true.mp T.sbl i (List.mem_range.mpr hi))
theorem Tp.subV (T : Tp w K mg) {i : Nat} (hi : i < 13) : PySem.W.subIn K (.ref (T.cs.getD i 0)) (.type "ValueError") = some true := beq_iff_eq.mp (List.all_eq_true.mp T.sbv i (List.mem_range.mpr hi))
theorem Tp.xc (T : Tp w K mg) : ∀ {i : Nat}, i < 13 → XcC K (T.cs.getD i 0)
  | 0, _ => T.xc_NoName
  | 1, _ => T.xc_NoText
  | 2, _ => T.xc_NoPlan
  | 3, _ => T.xc_NoBook
  | 4, _ => T.xc_NoScript
  | 5, _ => T.xc_NoBounds
  | 6, _ => T.xc_NotWaiting
  | 7, _ => T.xc_Uneven
  | 8, _ => T.xc_NoStep
  | 9, _ => T.xc_TooMany
  | 10, _ => T.xc_Endless
  | 11, _ => T.xc_NoLine
  | 12, _ => T.xc_NoHouse
  | n + 13, h => absurd h (by omega)
theorem Tp.kit (T : Tp w K mg) {i j : Nat} (hi : i < 13) (hj : j < 13) : PySem.W.kitOne K (.ref (T.cs.getD i 0)) (.ref (T.cs.getD j 0)) = some (decide (i = j)) := (T.xc hj).kit (T.sub hi hj) fun e => by
  have h1 := T.sub hi hj
  rw [e, T.sub hj hj, decide_eq_true rfl] at h1
  exact (Option.some.inj h1).symm
theorem Tp.kitL (T : Tp w K mg) {i : Nat} (hi : i < 13) : PySem.W.kitOne K (.ref (T.cs.getD i 0)) (.ref T.C_LockError) = some true := T.xc_LockError.kit (T.subL hi) fun _ => rfl
theorem Tp.kitV (T : Tp w K mg) {i : Nat} (hi : i < 13) : PySem.W.kitOne K (.ref (T.cs.getD i 0)) (.type "ValueError") = some true := kit_b (by decide +kernel) (T.subV hi)
end
section
variable {P : Program} {w : World} {K : PySem.W.Frag} {mg : Str → Option Value} {base : Heap}
theorem ok_NoName___init__ (T : Tp w K mg) : FnOk P w K mg base CX0 1 T.f_NoName___init__ T.d_NoName___init__ ["self", "name"] (spXInit K "name") := by
  refine T.F_NoName___init__.ok sc_NoName___init__ (fun vs H Q E h => ?_) (fun cdv A outer s H vs Q E hr h => ?_)
  · obtain ⟨a, C, v, rfl, _⟩ := h
    rfl
  obtain ⟨a, C, v, rfl, c, no, ha, q⟩ := h
  refine ⟨_, (pss_one (ps_ost (pv 0) (pv 1))), ?_⟩
  exact ⟨v, rfl, _, rfl, a, C, rfl, c, no, Or.inl ⟨ha, fun dx nd ne => q dx nd ne⟩⟩
theorem ok_NoText___init__ (T : Tp w K mg) : FnOk P w K mg base CX0 1 T.f_NoText___init__ T.d_NoText___init__ ["self", "row"] (spXInit K "row") := by
  refine T.F_NoText___init__.ok sc_NoText___init__ (fun vs H Q E h => ?_) (fun cdv A outer s H vs Q E hr h => ?_)
  · obtain ⟨a, C, v, rfl, _⟩ := h
    rfl
  obtain ⟨a, C, v, rfl, c, no, ha, q⟩ := h
  refine ⟨_, (pss_one (ps_ost (pv 0) (pv 1))), ?_⟩
  exact ⟨v, rfl, _, rfl, a, C, rfl, c, no, Or.inl ⟨ha, fun dx nd ne => q dx nd ne⟩⟩
end

/-! ### the program's rows of a plan -/
def spAF (K : PySem.W.Frag) (d : Nat) : Sp := fun vs H Q _ => ∃ (v : V) (pa : Addr) (n : Str) (b : Int) (ms : List Tr) (p : List Str), vs = [v, .ref pa] ∧ TrV H v (.grp n b ms) ∧ H pa = some (.tup (p.map V.str)) ∧ (Tr.grp n b ms).deep ≤ d ∧ (Tr.grp n b ms).size ≤ 1000 ∧ p.length + d ≤ 1000 ∧
  ∀ r xs H', Ex H H' → H r = none → H' r = some (.lst xs) → RowsB H' xs ((Tr.grp n b ms).rows p) → Q (.ref r) H'
def spAll (K : PySem.W.Frag) : Sp := fun vs H Q _ => ∃ (v : V) (n : Str) (b : Int) (ms : List Tr), vs = [v] ∧ TrV H v (.grp n b ms) ∧ (Tr.grp n b ms).deep ≤ 12 ∧ (Tr.grp n b ms).size ≤ 1000 ∧
  ∀ r xs H', Ex H H' → H r = none → H' r = some (.lst xs) → RowsB H' xs ((Tr.grp n b ms).rows []) → Q (.ref r) H'
def spNames (K : PySem.W.Frag) (f : Tr → List Str) : Sp := fun vs H Q _ => ∃ (v : V) (n : Str) (b : Int) (ms : List Tr), vs = [v] ∧ TrV H v (.grp n b ms) ∧ (Tr.grp n b ms).deep ≤ 12 ∧ (Tr.grp n b ms).size ≤ 1000 ∧
  ∀ a H', Ex H H' → H' a = some (.tup ((f (.grp n b ms)).map V.str)) → Q (.ref a) H'
def spPath (K : PySem.W.Frag) : Sp := fun vs H Q _ => ∃ (v : V) (n : Str) (b : Int) (ms : List Tr) (x : Str) (r : Rw), vs = [v, .str x] ∧ TrV H v (.grp n b ms) ∧ (Tr.grp n b ms).deep ≤ 12 ∧ (Tr.grp n b ms).size ≤ 1000 ∧
  ((Tr.grp n b ms).told []).find? (fun r => decide (r.1 = x)) = some r ∧ ∀ a H', Ex H H' → H' a = some (.tup (r.2.2.map V.str)) → Q (.ref a) H'
section
variable {P : Program} {w : World} {K : PySem.W.Frag} {mg : Str → Option Value} {base : Heap}
theorem af_none (T : Tp w K mg) : FnOk P w K mg base CX0 0 T.f_all_from T.d_all_from ["group", "around"] (spAF K 0) := by
  have no : ∀ vs H Q E, ¬ spAF K 0 vs H Q E := fun vs H Q E h => by
    obtain ⟨v, pa, n, b, ms, p, _, _, _, hd, _⟩ := h
    simp [Tr.deep] at hd
  exact ⟨fun vs H Q E h => (no vs H Q E h).elim, fun A outer s H args us vs Q E _ _ _ _ h => (no vs H Q E h).elim⟩
theorem af_more (T : Tp w K mg) {d : Nat} (ih : FnOk P w K mg base CX0 d T.f_all_from T.d_all_from ["group", "around"] (spAF K d)) : FnOk P w K mg base CX0 (d + 1) T.f_all_from T.d_all_from ["group", "around"] (spAF K (d + 1)) := by
  refine T.F_all_from.ok sc_all_from (fun vs H Q E h => ?_) (fun cdv A outer s H vs Q E hr h => ?_)
  · obtain ⟨v, pa, n, b, ms, p, rfl, _⟩ := h
    rfl
  obtain ⟨v, pa, n, b, ms, p, rfl, hv, hpa, hdeep, hsize, hpl, q⟩ := h
  cases hv with
  | grp h1 h2 h3 =>
  rename_i a m xs
  refine ⟨_, (pss_cons (ps_asg (pv 0) (pg_tup rfl (pgs_cons (pg_name (i := 2) sc_all_from.nd rfl (Or.inl rfl)) (pgs_cons (pg_name (i := 3) sc_all_from.nd rfl (Or.inl rfl)) (pgs_cons (pg_name (i := 4) sc_all_from.nd rfl (Or.inl rfl)) pgs_nil)))))
  (pss_cons (ps_set (i := 5) sc_all_from.nd rfl (Or.inl rfl) (pe_lst (pa_cons (pe_tup (pa_cons (pv 2) (pa_cons (pv 3) (pa_cons (pv 1) pa_nil (star1 rfl)) (star1 rfl)) (star1 rfl))) pa_nil (star1 rfl))))
  (pss_cons (ps_set (i := 6) sc_all_from.nd rfl (Or.inl rfl) (pe_tup (pa_cons (pv 2) (StX.pa_star (pv 1) pa_nil) (star1 rfl))))
  (pss_cons (ps_for PassesOwn.never rfl (pi_tup (pv 4)) (pg_name (i := 7) sc_all_from.nd rfl (Or.inl rfl)) (pss_one (ps_if (pt_val (pe_callB (isiK (K := K) rfl) rfl T.z_isinstance (by decide +kernel) (pa_cons (pv 7) (pa_cons (pe_bltn (v := .ty "str") rfl T.z_str (by decide +kernel) rfl) pa_nil (star1 rfl)) (star1 rfl)) (by decide) (by decide) (star1 rfl) (starAll rfl))) (pss_one (ps_expr (pe_bm PySem.F.plainAttrs_list PySem.F.slot_list_append PySem.F.type_list_append mt_append (pv 5) (pa_cons (pe_tup (pa_cons (pv 7) (pa_cons pe_non (pa_cons (pv 6) pa_nil (star1 rfl)) (star1 rfl)) (star1 rfl))) pa_nil (star1 rfl))))) (pss_one (ps_expr (pe_bm PySem.F.plainAttrs_list PySem.F.slot_list_extend PySem.F.type_list_extend mt_extend (pv 5) (pa_cons (pe_call ih hr rfl T.m_all_from T.F_all_from.kp (b_all_from T) .nil pass0 (pa_cons (pv 7) (pa_cons (pv 6) pa_nil (star1 rfl)) (star1 rfl)) (by decide) (star1 rfl) (starAll rfl)) pa_nil (star1 rfl))))))))
  (pss_one (ps_ret (pv 5))))))), ?_⟩
  -- name, bound, members = group
  refine q_asgG ?_
  refine ⟨_, rfl, a, _, rfl, st_of h1, rfl, _, _, rfl, _, _, rfl, _, _, rfl, rfl, ?_⟩
  -- rows = [(name, bound, around)]
  refine q_asgP ?_
  refine ⟨_, rfl, _, rfl, _, rfl, (by show 3 ≤ sizeLine; decide), fun t1 ht1 => ⟨(by show 1 ≤ sizeLine; decide), fun r hr1 => ?_⟩⟩
  generalize hH1 : upd (upd H t1 (.tup [.str n, .int b, .ref pa])) r (.lst [.ref t1]) = H1
  have e1 : Ex H H1 := by rw [← hH1]; exact (Ex.new ht1).trans (Ex.new hr1)
  have rH : H r = none := fresh_back (Ex.new ht1) hr1
  have hr2 : H1 r = some (.lst [.ref t1]) := by rw [← hH1]; exact upd_same
  have row1 : RowB H1 (.ref t1) (n, some b, p) := ⟨t1, pa, rfl, by rw [← hH1]; exact (Ex.new hr1) _ _ upd_same, e1 _ _ hpa⟩
  -- inside = (name, *around)
  refine q_asgP ?_
  refine ⟨_, rfl, _, rfl, pa, p.map V.str, rfl, Or.inl (st_of (e1 _ _ hpa)), sz_of (by simp; omega), fun ia hia => ?_⟩
  generalize hH2 : upd H1 ia (.tup (V.str n :: (p.map V.str ++ []))) = H2
  have e2 : Ex H1 H2 := by rw [← hH2]; exact Ex.new hia
  have hin : H2 ia = some (.tup ((n :: p).map V.str)) := by
    rw [← hH2, upd_same, List.append_nil]
    rfl
  have e12 := e1.trans e2
  have hdp : deeps ms ≤ d := by simp only [Tr.deep] at hdeep; omega
  have hsz : sizes ms ≤ 1000 := by simp only [Tr.size] at hsize; omega
  -- for member in members
  refine q_forT (K := K) (a := m) (xs := xs) (ev_var rfl) (st_of (e12 _ _ h2)) (fun i σ' H' => Ex H H' ∧ H' ia = some (.tup ((n :: p).map V.str)) ∧ ∃ ys c, σ' = [some (.ref a), some (.ref pa), some (.str n), some (.int b), some (.ref m), some (.ref r), some (.ref ia), c] ∧ H' r = some (.lst ys) ∧ RowsB H' ys ((n, some b, p) :: rowss (ms.take i) (n :: p))) ?_ ?_ ?_ ?_
  · intro H3 e3
    refine ⟨e12.trans e3, e3 _ _ hin, [.ref t1], none, rfl, e3 _ _ (e2 _ _ hr2), ?_⟩
    simp only [List.take_zero, rowss]
    exact RowsB.one (row1.tk (TK.ex (e2.trans e3)))
  · intro i σ' H' _ hP
    exact st_of (hP.1 _ _ h2)
  · intro i x σ' H' hx hP
    obtain ⟨e3, hin3, ys, c, rfl, hr3, hrows⟩ := hP
    obtain ⟨t, ht, tv⟩ := trvs_get h3 hx
    have tv3 := trv_tk (TK.ex e3) t x tv
    have hyl : ys.length ≤ 1001 := by
      have := hrows.len
      simp only [List.length_cons, rowss_len] at this
      have := sizes_take ms i
      omega
    have hstep : (n, some b, p) :: rowss (ms.take (i + 1)) (n :: p) = ((n, some b, p) :: rowss (ms.take i) (n :: p)) ++ t.rows (n :: p) := by
      rw [rowss_take ms i t (n :: p) ht]
      rfl
    refine s_if (et_B (ev_isHand (ev_var rfl) tv3)) (fun hb H4 e4 => ?_) (fun hb H4 e4 => ?_)
    · cases tv3 with
      | hand nm =>
        refine ⟨.ref r, rfl, Or.inl ⟨rfl, ys, sq_of (e4 _ _ hr3)⟩, _, rfl, _, rfl, (by show 3 ≤ sizeLine; decide), fun t2 ht2 => ?_⟩
        refine ⟨r, ys, _, rfl, rfl, (Ex.new ht2) _ _ (e4 _ _ hr3), sz_lt (by omega), ?_⟩
        generalize hH5 : upd H4 t2 (.tup [.str nm, .non, .ref ia]) = H5
        have e5 : Ex H4 H5 := by rw [← hH5]; exact Ex.new ht2
        have hr5 : H5 r = some (.lst ys) := e5 _ _ (e4 _ _ hr3)
        have k5 : TK H5 (upd H5 r (.lst (ys ++ [.ref t2]))) := TK.lst hr5
        refine ⟨Ex.mut ((e3.trans e4).trans e5) rH, k5 _ _ (e5 _ _ (e4 _ _ hin3)), ys ++ [.ref t2], _, rfl, upd_same, ?_⟩
        rw [hstep]
        refine RowsB.tk k5 ((hrows.tk (TK.ex (e4.trans e5))).app (RowsB.one ⟨t2, ia, rfl, by rw [← hH5]; exact upd_same, e5 _ _ (e4 _ _ hin3)⟩))
      | grp _ _ _ => cases hb
    · cases tv3 with
      | hand nm => cases hb
      | grp g1 g2 g3 =>
        rename_i a' m' n' b' xs' ms'
        refine ⟨.ref r, rfl, Or.inl ⟨rfl, ys, sq_of (e4 _ _ hr3)⟩, _, rfl, _, rfl, .ref a', ia, n', b', ms', n :: p, rfl, trv_tk (TK.ex e4) _ _ (.grp g1 g2 g3), e4 _ _ hin3, ?_, ?_, ?_, fun b2 zs H5 e5 hb2 hb5 hrw => ?_⟩
        · have := deeps_mem ht
          omega
        · have := sizes_mem ht
          omega
        · simp only [List.length_cons]
          omega
        have hr5 : H5 r = some (.lst ys) := e5 _ _ (e4 _ _ hr3)
        have hzl := hrw.len
        rw [rows_len] at hzl
        have := sizes_mem ht
        refine ⟨r, b2, ys, zs, rfl, rfl, hr5, hb5, sz_of (by omega), ?_⟩
        have k5 : TK H5 (upd H5 r (.lst (ys ++ zs))) := TK.lst hr5
        refine ⟨Ex.mut ((e3.trans e4).trans e5) rH, k5 _ _ (e5 _ _ (e4 _ _ hin3)), ys ++ zs, _, rfl, upd_same, ?_⟩
        rw [hstep]
        exact RowsB.tk k5 ((hrows.tk (TK.ex (e4.trans e5))).app hrw)
  · intro σ' H' hP
    obtain ⟨e3, hin3, ys, c, rfl, hr3, hrows⟩ := hP
    rw [trvs_len h3, List.take_length] at hrows
    refine s_ret (v := .ref r) (ev_var rfl) fun H4 e4 => q r ys H4 (e3.trans e4) rH (e4 _ _ hr3) ?_
    simp only [Tr.rows]
    exact hrows.tk (TK.ex e4)
theorem af_all (T : Tp w K mg) : ∀ d, FnOk P w K mg base CX0 d T.f_all_from T.d_all_from ["group", "around"] (spAF K d)
  | 0 => af_none T
  | d + 1 => af_more T (af_all T d)
theorem ok_all_from (T : Tp w K mg) : FnOk P w K mg base CX0 12 T.f_all_from T.d_all_from ["group", "around"] (spAF K 12) := af_all T 12
theorem ok_all_in (T : Tp w K mg) : FnOk P w K mg base CX0 13 T.f_all_in T.d_all_in ["plan"] (spAll K) := by
  refine T.F_all_in.ok sc_all_in (fun vs H Q E h => ?_) (fun cdv A outer s H vs Q E hr h => ?_)
  · obtain ⟨v, n, b, ms, rfl, _⟩ := h
    rfl
  obtain ⟨v, n, b, ms, rfl, hv, hd, hs, q⟩ := h
  refine ⟨_, (pss_one (ps_ret (pe_call (ok_all_from T) (hr.mono (by decide)) rfl T.m_all_from T.F_all_from.kp (b_all_from T) .nil pass0 (pa_cons (pv 0) (pa_cons (pe_tup pa_nil) pa_nil (star1 rfl)) (star1 rfl)) (by decide) (star1 rfl) (starAll rfl)))), ?_⟩
  refine s_retP ?_
  refine ⟨_, rfl, (by show 0 ≤ sizeLine; decide), fun t ht => ⟨v, t, n, b, ms, [], rfl, trv_tk (TK.new ht) _ _ hv, upd_same, hd, hs, by decide, fun r xs H' e hr' h1 h2 => ?_⟩⟩
  exact q r xs H' ((Ex.new ht).trans e) (fresh_back (Ex.new ht) hr') h1 h2
end

/-! ### the groups around a name, or a refusal -/
def spPathX (K : PySem.W.Frag) (CN : Addr) : Sp := fun vs H Q E => ∃ (v x : V) (n : Str) (b : Int) (ms : List Tr) (d : PyData), vs = [v, x] ∧ TrV H v (.grp n b ms) ∧ (Tr.grp n b ms).deep ≤ 12 ∧ (Tr.grp n b ms).size ≤ 1000 ∧ Dx K H x d ∧
  (∀ z, d = .str z → z ∈ (Tr.grp n b ms).nms → ∀ u H', Ex H H' → Q u H') ∧
  ((∀ z, d = .str z → z ∉ (Tr.grp n b ms).nms) → ∀ dd H', Ex H H' → H dd = none → H' dd = some (.xd [("name", x)]) → E (.ref CN) (some dd) H')
theorem rows_nms (t : Tr) (p : List Str) : (t.rows p).map (·.1) = t.nms := by
  rw [← told_nms t p, ← rows_told t p, List.map_map]
  rfl
section
variable {P : Program} {w : World} {K : PySem.W.Frag} {mg : Str → Option Value} {base : Heap}
theorem ok_path_of (T : Tp w K mg) : FnOk P w K mg base (L2.CX P w) 14 T.f_path_of T.d_path_of ["plan", "name"] (spPathX K T.C_NoName) := by
  refine T.F_path_of.okX sc_path_of (fun vs H Q E h => ?_) (fun cdv A outer s H vs Q E hr h => ?_)
  · obtain ⟨v, x, n, b, ms, d, rfl, _⟩ := h
    rfl
  obtain ⟨v, x, n, b, ms, d, rfl, hv, hdp, hsz, hx, qy, qn⟩ := h
  refine ⟨_, (pss_cons (ps_if (pt_val (pe_callB (isiK (K := K) rfl) rfl T.z_isinstance (by decide +kernel) (pa_cons (pv 1) (pa_cons (pe_bltn (v := .ty "str") rfl T.z_str (by decide +kernel) rfl) pa_nil (star1 rfl)) (star1 rfl)) (by decide) (by decide) (star1 rfl) (starAll rfl))) (pss_one (ps_for (passes_of rfl) rfl (pi_list (pe_call (ok_all_in T) (hr.mono (by decide)) rfl T.m_all_in T.F_all_in.kp (b_all_in T) .nil pass0 (pa_cons (pv 0) pa_nil (star1 rfl)) (by decide) (star1 rfl) (starAll rfl))) (pg_tup rfl (pgs_cons (pg_name (i := 2) sc_path_of.nd rfl (Or.inl rfl)) (pgs_cons (pg_name (i := 3) sc_path_of.nd rfl (Or.inl rfl)) (pgs_cons (pg_name (i := 4) sc_path_of.nd rfl (Or.inl rfl)) pgs_nil)))) (pss_one (ps_if (pt_cmpR op_eq (pv 2) (pv 1) (nomark _)) (pss_one (ps_ret (pv 4))) pss_nil)))) pss_nil)
  (pss_one (ps_raise rfl (takes_of rfl rfl rfl rfl) (pmk_oex T.ox_NoName T.ii_NoName T.ti_NoName (ok_NoName___init__ T) (hr.mono (by decide)) (b_NoName___init__ T) .nil pass0 rfl T.mc_NoName (pa_cons (pv 1) pa_nil (star1 rfl)) (by decide) (star1 rfl) (starAll rfl))))), ?_⟩
  refine q_when (et_B (ev_isX (ev_var rfl) hx (kt_str d))) (fun hb H1 e1 => ?_) (fun hb H1 e1 => ?_)
  rotate_left
  · refine ⟨x, rfl, mkx T.ox_NoName T.na_NoName_name fun dd nd => qn (fun z e => ?_) dd _ (e1.trans (Ex.new nd)) (fresh_back e1 nd) upd_same⟩
    rw [e] at hb
    cases hb
  obtain ⟨z, rfl⟩ : ∃ z, d = .str z := by
    cases d <;> first | exact ⟨_, rfl⟩ | cases hb
  cases hx
  unfold tFor iList
  refine ⟨_, rfl, v, n, b, ms, rfl, trv_tk (TK.ex e1) _ _ hv, hdp, hsz, fun r xs H2 e2 hr2 h2 rows => ⟨r, rfl, ⟨xs, sq_of h2⟩, ?_⟩⟩
  have nms : ((Tr.grp n b ms).rows []).map (·.1) = (Tr.grp n b ms).nms := rows_nms _ _
  generalize hrs : (Tr.grp n b ms).rows [] = rs at rows nms
  have hxl := rows.len
  refine for_list (K := K) (a := r) (xs := xs) (fun i σ' H' => Ex H2 H' ∧ (∀ y ∈ rs.take i, y.1 ≠ z) ∧ ∃ c2 c3 c4, σ' = [some v, some (.str z), c2, c3, c4]) ⟨Ex.refl H2, by simp, none, none, none, rfl⟩ (fun i σ' H' _ hP => sq_of (hP.1 _ _ h2)) ?_ ?_
  · intro i y σ' H' hy hP
    obtain ⟨e3, hno, c2, c3, c4, rfl⟩ := hP
    obtain ⟨rw', hrw, a, pa, rfl, ha, hpa⟩ := rows.get hy
    obtain ⟨nm, g, p⟩ := rw'
    refine ⟨a, _, rfl, st_of (e3 _ _ ha), rfl, _, _, rfl, _, _, rfl, _, _, rfl, rfl, ?_⟩
    refine s_when (et_test (ev_eq (ev_var rfl) (ev_var rfl) rfl)) (fun hb H4 e4 => ?_) (fun hb H4 e4 => ?_)
    · have hn : nm = z := V.str.inj (of_decide_eq_true hb)
      have hm : z ∈ (Tr.grp n b ms).nms := by
        rw [← nms, ← hn]
        exact List.mem_map.mpr ⟨_, List.mem_of_getElem? hrw, rfl⟩
      exact s_ret (v := .ref pa) (ev_var rfl) fun H5 e5 => qy z rfl hm _ H5 ((((e1.trans e2).trans e3).trans e4).trans e5)
    · refine ⟨e3.trans e4, ?_, _, _, _, rfl⟩
      intro u hu
      rw [List.take_succ, hrw] at hu
      rcases List.mem_append.mp hu with hu | hu
      · exact hno u hu
      · simp at hu
        subst hu
        intro e
        have e' : nm = z := e
        rw [e'] at hb
        simp at hb
  · intro σ' H' hP
    obtain ⟨e3, hno, c2, c3, c4, rfl⟩ := hP
    rw [hxl, List.take_length] at hno
    refine ⟨.str z, rfl, mkx T.ox_NoName T.na_NoName_name fun dd nd => qn (fun u e hm => ?_) dd _ (((e1.trans e2).trans e3).trans (Ex.new nd)) (fresh_back ((e1.trans e2).trans e3) nd) upd_same⟩
    cases e
    rw [← nms] at hm
    obtain ⟨y, hy, e⟩ := List.mem_map.mp hm
    exact hno y hy e
end

/-! ### one class alone -/
section
variable {K : PySem.W.Frag} {σ : L2.St} {H : Hp} {ta tb : TE}
theorem ev_isx {i : Nat} {a D C : Addr} {d : Option Addr} {b : Bool} (hσ : σ[i]? = some (some (.ref a))) (x : XcAt H a D d) (c : XcC K D) (e : PySem.W.kitOne K (.ref D) (.ref C) = some b) : Ev (tCB (rIsX K) (tCons (tVar i) (tCons (tC (.ref C)) tNil))) σ H (.bl b) := fun H1 e1 Q q =>
  ⟨_, hσ, a, D, d, .ref C, .ref C, b, rfl, x.ex e1, c, .own C, e, q H1 (Ex.refl H1)⟩
theorem ev_isxB {i : Nat} {a D : Addr} {d : Option Addr} {T : String} {b : Bool} (hσ : σ[i]? = some (some (.ref a))) (x : XcAt H a D d) (c : XcC K D) (e : PySem.W.kitOne K (.ref D) (.type T) = some b) : Ev (tCB (rIsX K) (tCons (tVar i) (tCons (tC (.ty T)) tNil))) σ H (.bl b) := fun H1 e1 Q q =>
  ⟨_, hσ, a, D, d, .ty T, .type T, b, rfl, x.ex e1, c, .ty T, e, q H1 (Ex.refl H1)⟩
theorem el_cat {p : Addr} {xs ys : List V} (ha : Ev ta σ H (.ref p)) (hp : H p = some (.lst xs)) (hb : EvL tb σ H ys) (hz : xs.length + ys.length ≤ 100000) : EvL (tOp rCat ta tb) σ H (xs ++ ys) := fun H1 e1 Q q =>
  ha H1 e1 _ fun H2 e2 => hb H2 (e1.trans e2) _ fun r H3 hr e3 h3 => ⟨p, r, xs, ys, rfl, rfl, e3 _ _ (e2 _ _ (e1 _ _ hp)), h3, sz_of hz, fun u hu => q u _ (fresh_back (e2.trans e3) hu) ((e2.trans e3).trans (Ex.new hu)) upd_same⟩
end
def bits (i : Nat) : List V := (List.range 13).map fun j => V.bl (decide (i = j))
def bitD (i : Nat) : PyData := .list ((List.range 13).map fun j => PyData.bool (decide (i = j)))
theorem bits_dp {K : PySem.W.Frag} {H : Hp} {p : Addr} {i : Nat} (h : H p = some (.lst (bits i))) : Dp K H (.ref p) (bitD i) := by
  refine .lst (sq_of h) ?_
  unfold bits
  generalize List.range 13 = l
  induction l with
  | nil => exact .nil
  | cons j l ih => exact .cons (.bl _) ih
theorem bit_shaped : ∀ i : Fin 13, SeqAt.shaped (bitD i.val) = true := by decide +kernel
theorem bit_eqv : ∀ i k : Fin 13, PyData.eqv (bitD i.val) (bitD k.val) = decide (i.val = k.val) := by decide +kernel
def spMarks (K : PySem.W.Frag) (cs : List Addr) : Sp := fun vs H Q _ => ∃ (a : Addr) (i : Nat) (d : Option Addr), vs = [.ref a] ∧ i < 13 ∧ XcAt H a (cs.getD i 0) d ∧ ∀ p H', H p = none → Ex H H' → H' p = some (.lst (bits i)) → Q (.ref p) H'
def spAlone (K : PySem.W.Frag) (cs : List Addr) : Sp := fun vs H Q _ => ∃ (a : Addr) (i k : Nat) (d : Option Addr), vs = [.ref a, .int (k : Int)] ∧ i < 13 ∧ k < 13 ∧ XcAt H a (cs.getD i 0) d ∧ ∀ H', Ex H H' → Q (.bl (decide (i = k))) H'
section
variable {P : Program} {w : World} {K : PySem.W.Frag} {mg : Str → Option Value} {base : Heap}
theorem ok__law_marks (T : Tp w K mg) : FnOk P w K mg base CX0 1 T.f__law_marks T.d__law_marks ["_law_one"] (spMarks K T.cs) := by
  refine T.F__law_marks.ok sc__law_marks (fun vs H Q E h => ?_) (fun cdv A outer s H vs Q E hr h => ?_)
  · obtain ⟨a, i, d, rfl, _⟩ := h
    rfl
  obtain ⟨a, i, d, rfl, hi, x, q⟩ := h
  refine ⟨_, (pss_cons (ps_set (i := 1) sc__law_marks.nd rfl (Or.inl rfl) (pe_lst (pa_cons (pe_callB (isxK (K := K) rfl) rfl T.z_isinstance (by decide +kernel) (pa_cons (pv 0) (pa_cons (pe_glob (v := .ref T.C_NoName) rfl T.mc_NoName rfl) pa_nil (star1 rfl)) (star1 rfl)) (by decide) (by decide) (star1 rfl) (starAll rfl)) (pa_cons (pe_callB (isxK (K := K) rfl) rfl T.z_isinstance (by decide +kernel) (pa_cons (pv 0) (pa_cons (pe_glob (v := .ref T.C_NoText) rfl T.mc_NoText rfl) pa_nil (star1 rfl)) (star1 rfl)) (by decide) (by decide) (star1 rfl) (starAll rfl)) (pa_cons (pe_callB (isxK (K := K) rfl) rfl T.z_isinstance (by decide +kernel) (pa_cons (pv 0) (pa_cons (pe_glob (v := .ref T.C_NoPlan) rfl T.mc_NoPlan rfl) pa_nil (star1 rfl)) (star1 rfl)) (by decide) (by decide) (star1 rfl) (starAll rfl)) (pa_cons (pe_callB (isxK (K := K) rfl) rfl T.z_isinstance (by decide +kernel) (pa_cons (pv 0) (pa_cons (pe_glob (v := .ref T.C_NoBook) rfl T.mc_NoBook rfl) pa_nil (star1 rfl)) (star1 rfl)) (by decide) (by decide) (star1 rfl) (starAll rfl)) pa_nil (star1 rfl)) (star1 rfl)) (star1 rfl)) (star1 rfl))))
  (pss_cons (ps_set (i := 1) sc__law_marks.nd rfl (Or.inl rfl) (pe_op op_cat (pv 1) (pe_lst (pa_cons (pe_callB (isxK (K := K) rfl) rfl T.z_isinstance (by decide +kernel) (pa_cons (pv 0) (pa_cons (pe_glob (v := .ref T.C_NoScript) rfl T.mc_NoScript rfl) pa_nil (star1 rfl)) (star1 rfl)) (by decide) (by decide) (star1 rfl) (starAll rfl)) (pa_cons (pe_callB (isxK (K := K) rfl) rfl T.z_isinstance (by decide +kernel) (pa_cons (pv 0) (pa_cons (pe_glob (v := .ref T.C_NoBounds) rfl T.mc_NoBounds rfl) pa_nil (star1 rfl)) (star1 rfl)) (by decide) (by decide) (star1 rfl) (starAll rfl)) (pa_cons (pe_callB (isxK (K := K) rfl) rfl T.z_isinstance (by decide +kernel) (pa_cons (pv 0) (pa_cons (pe_glob (v := .ref T.C_NotWaiting) rfl T.mc_NotWaiting rfl) pa_nil (star1 rfl)) (star1 rfl)) (by decide) (by decide) (star1 rfl) (starAll rfl)) pa_nil (star1 rfl)) (star1 rfl)) (star1 rfl)))))
  (pss_cons (ps_set (i := 1) sc__law_marks.nd rfl (Or.inl rfl) (pe_op op_cat (pv 1) (pe_lst (pa_cons (pe_callB (isxK (K := K) rfl) rfl T.z_isinstance (by decide +kernel) (pa_cons (pv 0) (pa_cons (pe_glob (v := .ref T.C_Uneven) rfl T.mc_Uneven rfl) pa_nil (star1 rfl)) (star1 rfl)) (by decide) (by decide) (star1 rfl) (starAll rfl)) (pa_cons (pe_callB (isxK (K := K) rfl) rfl T.z_isinstance (by decide +kernel) (pa_cons (pv 0) (pa_cons (pe_glob (v := .ref T.C_NoStep) rfl T.mc_NoStep rfl) pa_nil (star1 rfl)) (star1 rfl)) (by decide) (by decide) (star1 rfl) (starAll rfl)) (pa_cons (pe_callB (isxK (K := K) rfl) rfl T.z_isinstance (by decide +kernel) (pa_cons (pv 0) (pa_cons (pe_glob (v := .ref T.C_TooMany) rfl T.mc_TooMany rfl) pa_nil (star1 rfl)) (star1 rfl)) (by decide) (by decide) (star1 rfl) (starAll rfl)) pa_nil (star1 rfl)) (star1 rfl)) (star1 rfl)))))
  (pss_one (ps_ret (pe_op op_cat (pv 1) (pe_lst (pa_cons (pe_callB (isxK (K := K) rfl) rfl T.z_isinstance (by decide +kernel) (pa_cons (pv 0) (pa_cons (pe_glob (v := .ref T.C_Endless) rfl T.mc_Endless rfl) pa_nil (star1 rfl)) (star1 rfl)) (by decide) (by decide) (star1 rfl) (starAll rfl)) (pa_cons (pe_callB (isxK (K := K) rfl) rfl T.z_isinstance (by decide +kernel) (pa_cons (pv 0) (pa_cons (pe_glob (v := .ref T.C_NoLine) rfl T.mc_NoLine rfl) pa_nil (star1 rfl)) (star1 rfl)) (by decide) (by decide) (star1 rfl) (starAll rfl)) (pa_cons (pe_callB (isxK (K := K) rfl) rfl T.z_isinstance (by decide +kernel) (pa_cons (pv 0) (pa_cons (pe_glob (v := .ref T.C_NoHouse) rfl T.mc_NoHouse rfl) pa_nil (star1 rfl)) (star1 rfl)) (by decide) (by decide) (star1 rfl) (starAll rfl)) pa_nil (star1 rfl)) (star1 rfl)) (star1 rfl))))))))), ?_⟩
  have c := T.xc hi
  have m : ∀ {σ : L2.St} {H' : Hp} {C : Addr} (j : Nat), j < 13 → T.cs.getD j 0 = C → Ex H H' → σ[0]? = some (some (.ref a)) → Ev (tCB (rIsX K) (tCons (tVar 0) (tCons (tC (.ref C)) tNil))) σ H' (.bl (decide (i = j))) := fun {σ H' C} j hj eC e hσ => ev_isx hσ (x.ex e) c (by rw [← eC]; exact T.kit hi hj)
  refine q_asgL (xs := [.bl (decide (i = 0)), .bl (decide (i = 1)), .bl (decide (i = 2)), .bl (decide (i = 3))]) (el_lst (ea_cons (m 0 (by decide) rfl (Ex.refl H) rfl) (ea_cons (m 1 (by decide) rfl (Ex.refl H) rfl) (ea_cons (m 2 (by decide) rfl (Ex.refl H) rfl) (ea_cons (m 3 (by decide) rfl (Ex.refl H) rfl) ea_nil)))) (by simp)) fun p1 H1 hp1 e1 h1 => ?_
  refine q_asgL (el_cat (ev_var rfl) h1 (ys := [.bl (decide (i = 4)), .bl (decide (i = 5)), .bl (decide (i = 6))]) (el_lst (ea_cons (m 4 (by decide) rfl e1 rfl) (ea_cons (m 5 (by decide) rfl e1 rfl) (ea_cons (m 6 (by decide) rfl e1 rfl) ea_nil))) (by simp)) (by simp)) fun p2 H2 hp2 e2 h2 => ?_
  have e12 := e1.trans e2
  refine q_asgL (el_cat (ev_var rfl) h2 (ys := [.bl (decide (i = 7)), .bl (decide (i = 8)), .bl (decide (i = 9))]) (el_lst (ea_cons (m 7 (by decide) rfl e12 rfl) (ea_cons (m 8 (by decide) rfl e12 rfl) (ea_cons (m 9 (by decide) rfl e12 rfl) ea_nil))) (by simp)) (by simp)) fun p3 H3 hp3 e3 h3 => ?_
  have e13 := e12.trans e3
  refine s_retL (el_cat (ev_var rfl) h3 (ys := [.bl (decide (i = 10)), .bl (decide (i = 11)), .bl (decide (i = 12))]) (el_lst (ea_cons (m 10 (by decide) rfl e13 rfl) (ea_cons (m 11 (by decide) rfl e13 rfl) (ea_cons (m 12 (by decide) rfl e13 rfl) ea_nil))) (by simp)) (by simp)) fun p4 H4 hp4 e4 h4 => ?_
  exact q p4 H4 (fresh_back e13 hp4) (e13.trans e4) h4
theorem ok__law_is_alone (T : Tp w K mg) : FnOk P w K mg base CX0 2 T.f__law_is_alone T.d__law_is_alone ["_law_one", "_law_at"] (spAlone K T.cs) := by
  refine T.F__law_is_alone.ok sc__law_is_alone (fun vs H Q E h => ?_) (fun cdv A outer s H vs Q E hr h => ?_)
  · obtain ⟨a, i, k, d, rfl, _⟩ := h
    rfl
  obtain ⟨a, i, k, d, rfl, hi, hk, x, q⟩ := h
  refine ⟨_, (pss_cons (ps_if (PW.pt (pw_or (pt_not (pt_val (pe_callB (isxK (K := K) rfl) rfl T.z_isinstance (by decide +kernel) (pa_cons (pv 0) (pa_cons (pe_glob (v := .ref T.C_LockError) rfl T.mc_LockError rfl) pa_nil (star1 rfl)) (star1 rfl)) (by decide) (by decide) (star1 rfl) (starAll rfl)))) (pw_or1 (pt_not (pt_val (pe_callB (isxK (K := K) rfl) rfl T.z_isinstance (by decide +kernel) (pa_cons (pv 0) (pa_cons (pe_bltn (v := .ty "ValueError") rfl T.z_ValueError (by decide +kernel) rfl) pa_nil (star1 rfl)) (star1 rfl)) (by decide) (by decide) (star1 rfl) (starAll rfl))))))) (pss_one (ps_ret pe_bl)) pss_nil)
  (pss_one (ps_ret (pe_cmpR (eqDK (K := K) rfl (hu_e64 hr)) (pe_call (ok__law_marks T) (hr.mono (by decide)) rfl T.m__law_marks T.F__law_marks.kp (b__law_marks T) .nil pass0 (pa_cons (pv 0) pa_nil (star1 rfl)) (by decide) (star1 rfl) (starAll rfl)) (pe_lc (own := [("_law_k", 2)]) (g := gName 2) (tt := tYes) rfl sc__law_is_alone.nd (pi_range1 rfl T.z_range (pa_cons pe_int pa_nil (star1 rfl))) (blkOk_by (N := N__law_is_alone) (sc := defScope s__law_is_alone) (by decide +kernel)) (fun _ _ _ _ _ => (pg_name (i := 2) sc__law_is_alone.nd rfl (Or.inl rfl))) (fun _ _ _ _ _ => pts_nil) (fun _ _ _ _ _ => (pe_cmpR op_eq (pv 2) (pv 1) (nomark _)))) (nomark _))))), ?_⟩
  have c := T.xc hi
  refine q_when (b := false) (et_is (et_or (et_not (et_B (ev_isx rfl x c (T.kitL hi)))) fun _ => et_not (et_B (ev_isxB rfl x c (T.kitV hi)))) rfl) (fun hb => by cases hb) (fun _ H1 e1 => ?_)
  have x1 := x.ex e1
  have lc := el_lcR1 (σ := [some (.ref a), some (.int (k : Int)), none]) (H := H1) (ta := tCons (tC (.int 13)) tNil) (t := tYes) (te := tOp rEq (tVar 2) (tVar 1)) (j := 2) (vs := [2]) (n := 13) (fun _ => true) (fun j => V.bl (decide (k = j))) (ea_cons ev_c ea_nil) (by decide) (fun x => rfl) (fun _ _ _ _ => et_yes) (fun j H2 e2 hj _ => ev_is (ev_eq (ev_var rfl) (ev_var rfl) rfl) (by
    congr 1
    refine decide_eq_decide.mpr ⟨fun z => ?_, fun z => by rw [z]⟩
    injection z with z
    omega))
  rw [given_all] at lc
  refine s_ret (ev_is (ev_opLL (xs := bits i) (ys := bits k) (el_call (ea_cons (ev_var rfl) ea_nil) fun H2 e2 Q' q' E' => ⟨a, i, d, rfl, hi, x1.ex e2, q'⟩) lc fun p r H2 hp hr' e2 H3 e3 Q' q' => ⟨bitD i, bitD k, bits_dp (e3 _ _ hp), bits_dp (e3 _ _ hr'), bit_shaped ⟨i, hi⟩, bit_shaped ⟨k, hk⟩, q' H3 (Ex.refl H3)⟩) (by rw [bit_eqv ⟨i, hi⟩ ⟨k, hk⟩])) fun H2 e2 => q H2 (e1.trans e2)
end

/-! ### the law's own drawing -/
def spHand (K : PySem.W.Frag) : Sp := fun vs H Q _ => ∃ (a : Addr) (ns : List Int), vs = [.ref a] ∧ SqL K H a (ns.map V.int) ∧ ns.length ≤ 63 ∧ ∀ h l H', Ex H H' → H h = none → H l = none → Hand H' h l → Q (.ref h) H'
def spPick : Sp := fun vs H Q _ => ∃ (h l : Addr) (m : Int), vs = [.ref h, .int m] ∧ Hand H h l ∧ 1 ≤ m ∧ m ≤ 1000000000 ∧ ∀ r H', 0 ≤ r → r < m → Hand H' h l → Kp h l H H' → Q (.int r) H'
section
variable {P : Program} {w : World} {K : PySem.W.Frag} {mg : Str → Option Value} {base : Heap}
theorem ok__law_hand (T : Tp w K mg) : FnOk P w K mg base CX0 1 T.f__law_hand T.d__law_hand ["_law_script"] (spHand K) := by
  refine T.F__law_hand.ok sc__law_hand (fun vs H Q E h => ?_) (fun cdv A outer s H vs Q E hr h => ?_)
  · obtain ⟨a, ns, rfl, _⟩ := h
    rfl
  obtain ⟨a, ns, rfl, hs, h63, q⟩ := h
  refine ⟨_, (pss_cons (ps_set (i := 1) sc__law_hand.nd rfl (Or.inl rfl) pe_int)
  (pss_cons (ps_for PassesOwn.never rfl (pi_list (pe_slice sl_list (pv 0) po_none (po_some pe_int))) (pg_name (i := 2) sc__law_hand.nd rfl (Or.inl rfl)) (pss_one (ps_set (i := 1) sc__law_hand.nd rfl (Or.inl rfl) (pe_op op_mod (pe_op op_add (pe_op op_add (pe_op op_mul (pv 1) pe_int) (pe_op op_mod (pv 2) pe_int)) pe_int) pe_int))))
  (pss_one (ps_ret (pe_lst (pa_cons (pe_lc (own := [("_law_cell", 2)]) (g := gName 2) rfl sc__law_hand.nd (pi_list (pe_slice sl_list (pv 0) po_none (po_some pe_int))) (blkOk_by (N := N__law_hand) (sc := defScope s__law_hand) (by decide +kernel)) (fun _ _ _ _ _ => (pg_name (i := 2) sc__law_hand.nd rfl (Or.inl rfl))) (fun _ _ _ _ _ => (pts_one (pt_cmpR op_ge (pv 2) (pe_op op_pow pe_int pe_int) (nomark _)))) (fun _ _ _ _ _ => (pv 2))) (pa_cons (pv 1) pa_nil (star1 rfl)) (star1 rfl))))))), ?_⟩
  obtain ⟨ms, hms, hlen⟩ := cut_ints ns 63
  refine q_asg (v := .int 23) ev_c fun H1 e1 => ?_
  refine q_forNLn (xs := ms.map V.int) (by rw [← hms]; exact el_cut (ev_var rfl) (ex_l e1 hs)) (fun p i σ' H' => Ex H1 H' ∧ H' p = some (.lst (ms.map V.int)) ∧ ∃ sd c, σ' = [some (.ref a), some (.int sd), c] ∧ 0 ≤ sd ∧ sd < 2305843009213693951) ?_ ?_ ?_ ?_
  · intro p H2 hp e2 h2
    exact ⟨e2, h2, 23, none, rfl, by decide, by decide⟩
  · intro p i σ' H' _ hv
    exact sq_of hv.2.1
  · intro p i x σ' H' hx hv
    obtain ⟨e2, hp, sd, c, rfl, h0, h1⟩ := hv
    obtain ⟨n, rfl⟩ : ∃ n, x = .int n := by
      rw [List.getElem?_map] at hx
      cases h : ms[i]? with
      | none => rw [h] at hx; cases hx
      | some n => rw [h] at hx; exact ⟨n, by cases hx; rfl⟩
    refine s_asg (v := .int ((sd * 6364136223846793 + n % 2305843009213693951 + 31) % 2305843009213693951)) (ev_I (by decide) (ev_I0 (ev_I0 (ev_I (Or.inl ⟨by omega, by omega⟩) (ev_var rfl) ev_c) (ev_I (by decide) (ev_var rfl) ev_c)) ev_c) ev_c) fun H3 e3 => ?_
    refine ⟨e2.trans e3, e3 _ _ hp, _, _, rfl, ?_, ?_⟩
    · exact Int.emod_nonneg _ (by decide)
    · exact Int.emod_lt_of_pos _ (by decide)
  · intro p σ' H' hv
    obtain ⟨e2, hp, sd, c, rfl, h0, h1⟩ := hv
    have c := el_lcNL (K := K) (σ := [some (.ref a), some (.int sd), c]) (H := H') (xs := ms.map V.int) (tl := tSl (rSlL K) (tVar 0) tNoPart (tPart (tC (.int 63)))) (t := tTest (tOp (rI0 fun i j => .bl (decide (j ≤ i))) (tVar 2) (tOp (rI CPow fun i j => .int (i ^ j.toNat)) (tC (.int 10)) (tC (.int 18))))) (te := tVar 2) (j := 2) (vs := [2])
      (fun i => decide ((10 : Int) ^ 18 ≤ ms.getD i 0)) (fun i => .int (ms.getD i 0)) (by rw [← hms]; exact el_cut (ev_var rfl) (ex_l (e1.trans e2) hs)) (by rw [List.length_map]; omega) (fun x => rfl) (fun i x H2 e2 hi => ?_) (fun i x H2 e2 hi _ => ?_)
    · obtain ⟨cs, hcs, hcl, hcp⟩ : ∃ cs : List Int, given (ms.map V.int).length (fun i => decide ((10 : Int) ^ 18 ≤ ms.getD i 0)) (fun i => V.int (ms.getD i 0)) = cs.map V.int ∧ cs.length ≤ ms.length ∧ ∀ c ∈ cs, 0 ≤ c := by
        refine ⟨((List.range (ms.map V.int).length).filter fun i => decide ((10 : Int) ^ 18 ≤ ms.getD i 0)).map fun i => ms.getD i 0, ?_, ?_, ?_⟩
        · unfold given
          rw [List.map_map]
          rfl
        · rw [List.length_map]
          exact Nat.le_trans (List.length_filter_le _ _) (by rw [List.length_range, List.length_map]; exact Nat.le_refl _)
        · intro c hc
          obtain ⟨i, hi, rfl⟩ := List.mem_map.mp hc
          have := of_decide_eq_true (List.mem_filter.mp hi).2
          omega
      rw [hcs] at c
      unfold tRet tLst tCons
      refine c H' (Ex.refl H') _ fun l H2 hl e3 hl2 => ?_
      refine ⟨.int sd, rfl, (by show 2 ≤ sizeLine; decide), fun h hh => ?_⟩
      have hx : Ex H H2 := (e1.trans e2).trans e3
      exact q h l _ (hx.trans (Ex.new hh)) (fresh_back hx hh) (fresh_back (e1.trans e2) hl) ⟨cs, sd, upd_same, by rw [upd_ne (ne_of_none hl2 hh)]; exact hl2, h0, h1, by omega, hcp⟩
    · obtain ⟨n, hn, rfl⟩ : ∃ n, ms[i]? = some n ∧ x = .int n := by
        rw [List.getElem?_map] at hi
        cases h : ms[i]? with
        | none => rw [h] at hi; cases hi
        | some n => rw [h] at hi; exact ⟨n, rfl, by cases hi; rfl⟩
      have e : ms.getD i 0 = n := by rw [List.getD_eq_getElem?_getD, hn]; rfl
      rw [e]
      exact et_test (ev_I0 (ev_var rfl) (ev_is (ev_I (C := CPow) ⟨by decide, by decide, by decide⟩ ev_c ev_c) rfl))
    · obtain ⟨n, hn, rfl⟩ : ∃ n, ms[i]? = some n ∧ x = .int n := by
        rw [List.getElem?_map] at hi
        cases h : ms[i]? with
        | none => rw [h] at hi; cases hi
        | some n => rw [h] at hi; exact ⟨n, rfl, by cases hi; rfl⟩
      have e : ms.getD i 0 = n := by rw [List.getD_eq_getElem?_getD, hn]; rfl
      rw [e]
      exact ev_var rfl
theorem ok__law_pick (T : Tp w K mg) : FnOk P w K mg base CX0 1 T.f__law_pick T.d__law_pick ["_law_hand_here", "_law_many"] spPick := by
  refine T.F__law_pick.ok sc__law_pick (fun vs H Q E h => ?_) (fun cdv A outer s H vs Q E hr h => ?_)
  · obtain ⟨h, l, m, rfl, _⟩ := h
    rfl
  obtain ⟨h, l, m, rfl, ⟨cs, sd, A0⟩, m1, m2, q⟩ := h
  refine ⟨_, (pss_cons (ps_while PassesOwn.never (PW.pt (pw_and (pt_cmpR (neDK (K := K) rfl hr.units) (pe_ix ix_list (pv 0) pe_int (fun _ _ => rfl)) (pe_lst pa_nil) (nomark _)) (pw_and1 (pt_cmpR op_eq (pe_ix ix_list (pe_ix ix_list (pv 0) pe_int (fun _ _ => rfl)) pe_int (fun _ _ => rfl)) pe_int (nomark _))))) (pss_one (ps_expr (pe_bm PySem.F.plainAttrs_list PySem.F.slot_list_pop PySem.F.type_list_pop mt_popAt (pe_ix ix_list (pv 0) pe_int (fun _ _ => rfl)) (pa_cons pe_int pa_nil (star1 rfl))))))
  (pss_cons (ps_if (pt_cmpR (neDK (K := K) rfl hr.units) (pe_ix ix_list (pv 0) pe_int (fun _ _ => rfl)) (pe_lst pa_nil) (nomark _)) (pss_cons (ps_set (i := 3) sc__law_pick.nd rfl (Or.inl rfl) (pe_op op_mod (pe_ix ix_list (pe_ix ix_list (pv 0) pe_int (fun _ _ => rfl)) pe_int (fun _ _ => rfl)) (pv 1)))
  (pss_cons (ps_asg (pe_op op_fdiv (pe_ix ix_list (pe_ix ix_list (pv 0) pe_int (fun _ _ => rfl)) pe_int (fun _ _ => rfl)) (pv 1)) (pg_sub (pe_ix ix_list (pv 0) pe_int (fun _ _ => rfl)) pe_int set_list))
  (pss_one (ps_ret (pv 3))))) pss_nil)
  (pss_cons (ps_asg (pe_op op_mod (pe_op op_add (pe_op op_mul (pe_ix ix_list (pv 0) pe_int (fun _ _ => rfl)) pe_int) pe_int) pe_int) (pg_sub (pv 0) pe_int set_list))
  (pss_cons (ps_set (i := 2) sc__law_pick.nd rfl (Or.inl rfl) (pe_op op_fdiv (pe_ix ix_list (pv 0) pe_int (fun _ _ => rfl)) pe_int))
  (pss_one (ps_ret (pe_op op_mod (pe_op op_fdiv (pe_op op_mod (pe_op op_mul (pv 2) (pe_op op_add (pe_op op_mod (pv 2) pe_int) pe_int)) pe_int) pe_int) (pv 1)))))))), ?_⟩
  have at0 : ∀ (σ' : L2.St) {H' : Hp} {cs : List Int} {sd : Int}, σ'[0]? = some (some (.ref h)) → HandAt H' h l cs sd → Ev (tOp (rIxL K) (tVar 0) (tC (.int 0))) σ' H' (.ref l) := fun σ' H' cs sd e A => ev_op (ev_var e) ev_c (rv_ixL (sq_of A.hh) rfl)
  refine q_while (fun n σ' H' => σ' = start N__law_pick [.ref h, .int m] ∧ Kp h l H H' ∧ ∃ cs sd, n = cs.length ∧ HandAt H' h l cs sd) cs.length ⟨rfl, Kp.refl h l H, cs, sd, rfl, A0⟩ ?_
  intro n σ' H' hw
  obtain ⟨rfl, kp, cs, sd, rfl, A⟩ := hw
  refine ⟨!cs.isEmpty && decide (cs.head? = some 0), et_and (et_test (ev_neNil (at0 _ rfl A) A.hl)) fun hne => ?_, fun hb H1 e1 => ?_, fun hb H1 e1 => ?_⟩
  · cases cs with
    | nil => cases hne
    | cons c r =>
      refine et_is (et_test (ev_eq (ev_op (at0 _ rfl A) ev_c (rv_ixL (v := .int c) (sq_of A.hl) (by simp [atI, ixN]))) ev_c rfl)) ?_
      simp
  · cases cs with
    | nil => cases hb
    | cons c r =>
      have A1 := A.ex e1
      refine ⟨fun σ2 H2 => σ2 = start N__law_pick [.ref h, .int m] ∧ Kp h l H H2 ∧ HandAt H2 h l r sd, fun σ2 H2 hn => ?_, ?_⟩
      · exact ⟨r.length, by simp, hn.1, hn.2.1, r, sd, rfl, hn.2.2⟩
      · refine at0 _ rfl A1 H1 (Ex.refl H1) _ fun H2 e2 => ⟨Or.inl ⟨rfl, _, sq_of (e2 _ _ A1.hl)⟩, l, (c :: r).map V.int, 0, 0, .int c, rfl, rfl, e2 _ _ A1.hl, by decide, by decide, ?_, rfl, rfl, ?_, ?_⟩
        · simp [seqIndex?]
        · exact Kp.put (kp.trans (Kp.ex (e1.trans e2))) (Or.inr rfl)
        · have A2 := A1.ex e2
          exact ⟨by rw [upd_ne A2.ne]; exact A2.hh, by rw [upd_same]; simp, A2.lo, A2.hi, by have := A2.few; simp at this; omega, fun c' hc => A2.pos c' (List.mem_cons_of_mem _ hc)⟩
  · have A1 := A.ex e1
    have k1 : Kp h l H H1 := kp.trans (Kp.ex e1)
    refine q_when (et_test (ev_neNil (at0 _ rfl A1) A1.hl)) (fun hne H2 e2 => ?_) (fun hne H2 e2 => ?_)
    · have A2 := A1.ex e2
      cases cs with
      | nil => cases hne
      | cons c r =>
        refine q_asg (v := .int (c % m)) (ev_I (by show (0 : Int) < m; omega) (ev_op (at0 _ rfl A2) ev_c (rv_ixL (v := .int c) (sq_of A2.hl) (by simp [atI, ixN]))) (ev_var rfl)) fun H3 e3 => ?_
        have A3 := A2.ex e3
        refine q_setL (j := 0) (v := .int (c / m)) A3.hl (ev_I (C := CDiv) ⟨by omega, by omega⟩ (ev_op (at0 _ rfl A3) ev_c (rv_ixL (v := .int c) (sq_of A3.hl) (by simp [atI, ixN]))) (ev_var rfl)) (at0 _ rfl A3) ev_c (by simp) fun H4 e4 => ?_
        have A4 := A3.ex e4
        refine s_ret (v := .int (c % m)) (ev_var rfl) fun H5 e5 => ?_
        have hc : 0 ≤ c := A4.pos c (List.mem_cons_self ..)
        have B : HandAt (upd H4 l (.lst (((c :: r).map V.int).set 0 (.int (c / m))))) h l (c / m :: r) sd := ⟨by rw [upd_ne A4.ne]; exact A4.hh, by rw [upd_same]; simp, A4.lo, A4.hi, by have := A4.few; simpa using this, fun c' hc' => by
          rcases List.mem_cons.mp hc' with rfl | h'
          · exact Int.ediv_nonneg hc (by omega)
          · exact A4.pos c' (List.mem_cons_of_mem _ h')⟩
        exact q _ H5 (Int.emod_nonneg _ (by omega)) (Int.emod_lt_of_pos _ (by omega)) ⟨_, _, B.ex e5⟩ ((Kp.put (k1.trans (Kp.ex ((e2.trans e3).trans e4))) (Or.inr rfl)).trans (Kp.ex e5))
    · have A2 := A1.ex e2
      have ev1 : ∀ (σ' : L2.St) {H' : Hp} {cs : List Int} {sd : Int}, σ'[0]? = some (some (.ref h)) → HandAt H' h l cs sd → Ev (tOp (rIxL K) (tVar 0) (tC (.int 1))) σ' H' (.int sd) := fun σ' H' cs sd e A => ev_op (ev_var e) ev_c (rv_ixL (sq_of A.hh) rfl)
      have hlo := A2.lo
      have hhi := A2.hi
      refine q_setL (j := 1) (v := .int ((sd * 3935559000370003 + 2691343689449507) % 2305843009213693951)) A2.hh (ev_I (by decide) (ev_I0 (ev_I (Or.inl ⟨by omega, by omega⟩) (ev1 _ rfl A2) ev_c) ev_c) ev_c) (ev_var rfl) ev_c (by simp) fun H3 e3 => ?_
      have A3 := A2.ex e3
      generalize hs : (sd * 3935559000370003 + 2691343689449507) % 2305843009213693951 = s2
      have s0 : 0 ≤ s2 := by rw [← hs]; exact Int.emod_nonneg _ (by decide)
      have s1 : s2 < 2305843009213693951 := by rw [← hs]; exact Int.emod_lt_of_pos _ (by decide)
      have B : HandAt (upd H3 h (.lst ([V.ref l, .int sd].set 1 (.int s2)))) h l cs s2 := ⟨upd_same, by rw [upd_ne (Ne.symm A3.ne)]; exact A3.hl, s0, s1, A3.few, A3.pos⟩
      refine q_asg (v := .int (s2 / 65537)) (ev_I (C := CDiv) (by constructor <;> decide) (ev1 _ rfl B) ev_c) fun H4 e4 => ?_
      have b1 : s2 / 65537 < 2 ^ 64 := by omega
      have b0 : 0 ≤ s2 / 65537 := by omega
      refine s_ret (ev_I (by show (0 : Int) < m; omega) (ev_I (C := CDiv) (by constructor <;> decide) (ev_I (by decide) (ev_I (C := CMul) (Or.inl ⟨by omega, by omega⟩) (ev_var rfl) (ev_I0 (ev_I (by decide) (ev_var rfl) ev_c) ev_c)) ev_c) ev_c) (ev_var rfl)) fun H5 e5 => ?_
      exact q _ H5 (Int.emod_nonneg _ (by omega)) (Int.emod_lt_of_pos _ (by omega)) ⟨_, _, B.ex (e4.trans e5)⟩ ((Kp.put (k1.trans (Kp.ex (e2.trans e3))) (Or.inl rfl)).trans (Kp.ex (e4.trans e5)))
end

def spOf : Sp := fun vs H Q _ => ∃ (h l : Addr), Hand H h l ∧ ((∃ (a : Addr) (xs : List V), vs = [.ref h, .ref a] ∧ H a = some (.lst xs) ∧ a ≠ h ∧ a ≠ l ∧ 1 ≤ xs.length ∧ xs.length ≤ 1000 ∧ ∀ v H', v ∈ xs → Hand H' h l → Kp h l H H' → Q v H') ∨
  (∃ z : Str, vs = [.ref h, .str z] ∧ 1 ≤ z.length ∧ z.length ≤ 1000 ∧ ∀ c H', c ∈ z.cps.toList → Hand H' h l → Kp h l H H' → Q (.str ⟨#[c]⟩) H'))
theorem of_list {h l a : Addr} {xs : List V} {H : Hp} {Q : VK} {E : XK} (A : Hand H h l) (ha : H a = some (.lst xs)) (n1 : a ≠ h) (n2 : a ≠ l) (l1 : 1 ≤ xs.length) (l2 : xs.length ≤ 1000) (q : ∀ v H', v ∈ xs → Hand H' h l → Kp h l H H' → Q v H') : spOf [.ref h, .ref a] H Q E := ⟨h, l, A, Or.inl ⟨a, xs, rfl, ha, n1, n2, l1, l2, q⟩⟩
theorem of_text {h l : Addr} {z : Str} {H : Hp} {Q : VK} {E : XK} (A : Hand H h l) (l1 : 1 ≤ z.length) (l2 : z.length ≤ 1000) (q : ∀ c H', c ∈ z.cps.toList → Hand H' h l → Kp h l H H' → Q (.str ⟨#[c]⟩) H') : spOf [.ref h, .str z] H Q E := ⟨h, l, A, Or.inr ⟨z, rfl, l1, l2, q⟩⟩
section
variable {P : Program} {w : World} {K : PySem.W.Frag} {mg : Str → Option Value} {base : Heap}
theorem ok__law_of (T : Tp w K mg) : FnOk P w K mg base CX0 2 T.f__law_of T.d__law_of ["_law_hand_here", "_law_some"] spOf := by
  refine T.F__law_of.ok sc__law_of (fun vs H Q E h => ?_) (fun cdv A outer s H vs Q E hr h => ?_)
  · obtain ⟨h, l, A, ⟨a, xs, rfl, _⟩ | ⟨z, rfl, _⟩⟩ := h
    · rfl
    · rfl
  refine ⟨_, (pss_one (ps_ret (pe_ix ix_seq (pv 1) (pe_call (ok__law_pick T) (hr.mono (by decide)) rfl T.m__law_pick T.F__law_pick.kp (b__law_pick T) .nil pass0 (pa_cons (pv 0) (pa_cons (pe_callB call_len rfl T.z_len PySem.boot_len (pa_cons (pv 1) pa_nil (star1 rfl)) (by decide) (by decide) (star1 rfl) (starAll rfl)) pa_nil (star1 rfl)) (star1 rfl)) (by decide) (star1 rfl) (starAll rfl)) (fun _ _ => rfl)))), ?_⟩
  obtain ⟨h, l, A0, ⟨a, xs, rfl, ha, n1, n2, l1, l2, q⟩ | ⟨z, rfl, l1, l2, q⟩⟩ := h
  · refine ⟨_, rfl, _, rfl, _, rfl, .ref a, xs.length, rfl, Or.inl ⟨xs, sq_of ha, rfl⟩, h, l, (xs.length : Int), rfl, A0, by omega, by omega, fun r H' r0 r1 A1 k1 => ?_⟩
    have hi : r.toNat < xs.length := by omega
    refine Or.inl ⟨a, xs, r, xs[r.toNat], rfl, rfl, sq_of (k1 a _ n1 n2 ha), ?_, q _ H' (List.getElem_mem hi) A1 k1⟩
    unfold atI ixN
    rw [if_pos r0, if_pos r1]
    simp [hi]
  · refine ⟨_, rfl, _, rfl, _, rfl, .str z, z.length, rfl, ⟨sz_of (by omega), rfl⟩, h, l, (z.length : Int), rfl, A0, by omega, by omega, fun r H' r0 r1 A1 k1 => ?_⟩
    have hz : z.cps.toList.length = z.length := by simp [Str.length]
    have hi : r.toNat < z.cps.toList.length := by omega
    refine Or.inr (Or.inr ⟨z, r, z.cps.toList[r.toNat], rfl, rfl, sz_of (by omega), ?_, q _ H' (List.getElem_mem hi) A1 k1⟩)
    unfold atI ixN
    rw [if_pos r0, if_pos (by omega)]
    simp [List.getElem?_eq_getElem hi]
end

/-! ### sixty names, all unlike -/
def spNm : Sp := fun vs H Q _ => ∃ (h l : Addr), vs = [.ref h] ∧ Hand H h l ∧ ∀ (f : Addr) (xs : List Str) (H' : Hp), Hand H' h l → Kp h l H H' → H f = none → f ≠ h → f ≠ l → H' f = some (.lst (xs.map V.str)) → xs.length = 60 → xs.Nodup → (∀ s ∈ xs, nameOk s) → Q (.ref f) H'
def alphabet : Str := "abcdefghijklmnopqrstuvwxyz"
theorem alpha_at : ∀ i : Fin 26, alphabet.cps.toList[i.val]? = some (97 + i.val) := by decide +kernel
def nmOf (first step : Int) (stem : List Nat) (k : Nat) : Str := ⟨(spotL ((first + step * (k : Int)) % 60).toNat stem).toArray⟩
theorem nm_inj {first step : Int} {stem : List Nat} (hs : step = 1 ∨ step = 7 ∨ step = 11 ∨ step = 13 ∨ step = 59) : ∀ i j, i < 60 → j < 60 → nmOf first step stem i = nmOf first step stem j → i = j := by
  intro i j hi hj h
  have h1 : spotL ((first + step * (i : Int)) % 60).toNat stem = spotL ((first + step * (j : Int)) % 60).toNat stem := by
    unfold nmOf at h
    simpa using h
  have h2 := spot_inj (by omega) (by omega) h1
  rcases hs with rfl | rfl | rfl | rfl | rfl <;> omega
theorem nm_ok {first step : Int} {stem : List Nat} (hs : ∀ c ∈ stem, 97 ≤ c ∧ c ≤ 122) (hl : stem.length ≤ 6) (k : Nat) : nameOk (nmOf first step stem k) := by
  have h := spot_len ((first + step * (k : Int)) % 60).toNat stem
  have e : (nmOf first step stem k).length = (spotL ((first + step * (k : Int)) % 60).toNat stem).length := by
    unfold nmOf Str.length
    simp
  refine ⟨by omega, by omega, ?_⟩
  unfold nmOf
  simpa using spot_letters (s := ((first + step * (k : Int)) % 60).toNat) hs
theorem joinOnes : ∀ cs : List Nat, TL.joinL [] (cs.map fun c => [c]) = cs
  | [] => rfl
  | [c] => rfl
  | c :: d :: r => by
    have := joinOnes (d :: r)
    simp only [List.map_cons, TL.joinL] at this ⊢
    rw [this]
    rfl
theorem join_signs (cs : List Nat) : (Txt.join "" (cs.map fun c => (⟨#[c]⟩ : Str))).cps.toList = cs := by
  have e : Txt.join "" (cs.map fun c => (⟨#[c]⟩ : Str)) = Str.join "" (cs.map fun c => (⟨#[c]⟩ : Str)) := StrLaws.glued_eq_join _ _
  rw [e]
  have h := TL.tl_join "" (cs.map fun c => (⟨#[c]⟩ : Str))
  have e2 : TL.tl ("" : Str) = [] := by decide +kernel
  rw [e2, List.map_map] at h
  have e3 : (TL.tl ∘ fun c => (⟨#[c]⟩ : Str)) = fun c => [c] := by funext c; rfl
  rw [e3, joinOnes] at h
  exact h
section
variable {K : PySem.W.Frag} {σ : L2.St} {H : Hp} {ta tb : TE}
abbrev rAddS : R2 := fun x y H Q => ∃ i j : Str, x = .str i ∧ y = .str j ∧ i.length + j.length ≤ sizeLine ∧ Q (.str (i ++ j)) H
theorem ev_addS {i j : Str} (ha : Ev ta σ H (.str i)) (hb : Ev tb σ H (.str j)) (hz : i.length + j.length ≤ 100000) : Ev (tOp rAddS ta tb) σ H (.str (i ++ j)) := ev_op ha hb fun H1 _ Q q => ⟨i, j, rfl, rfl, sz_of hz, q H1 (Ex.refl H1)⟩
end
section
variable {P : Program} {w : World} {K : PySem.W.Frag} {mg : Str → Option Value} {base : Heap}
theorem ok__law_names (T : Tp w K mg) : FnOk P w K mg base CX0 3 T.f__law_names T.d__law_names ["_law_hand_here"] spNm := by
  refine T.F__law_names.ok sc__law_names (fun vs H Q E h => ?_) (fun cdv A outer s H vs Q E hr h => ?_)
  · obtain ⟨h, l, rfl, _⟩ := h
    rfl
  obtain ⟨h, l, rfl, A0, q⟩ := h
  refine ⟨_, (pss_cons (ps_set (i := 1) sc__law_names.nd rfl (Or.inl rfl) (pe_join pe_str (pe_lc (own := [("_law_k", 5)]) (g := gName 5) (tt := tYes) rfl sc__law_names.nd (pi_range1 rfl T.z_range (pa_cons (pe_call (ok__law_pick T) (hr.mono (by decide)) rfl T.m__law_pick T.F__law_pick.kp (b__law_pick T) .nil pass0 (pa_cons (pv 0) (pa_cons pe_int pa_nil (star1 rfl)) (star1 rfl)) (by decide) (star1 rfl) (starAll rfl)) pa_nil (star1 rfl))) (blkOk_by (N := N__law_names) (sc := defScope s__law_names) (by decide +kernel)) (fun _ _ _ _ _ => (pg_name (i := 5) sc__law_names.nd rfl (Or.inl rfl))) (fun _ _ _ _ _ => pts_nil) (fun _ _ _ _ _ => (pe_call (ok__law_of T) (hr.mono (by decide)) rfl T.m__law_of T.F__law_of.kp (b__law_of T) .nil pass0 (pa_cons (pv 0) (pa_cons pe_str pa_nil (star1 rfl)) (star1 rfl)) (by decide) (star1 rfl) (starAll rfl))))))
  (pss_cons (ps_par rfl sc__law_names.nd (i := 2) (j := 3) rfl rfl (by decide) rfl rfl (pa_cons (pe_call (ok__law_pick T) (hr.mono (by decide)) rfl T.m__law_pick T.F__law_pick.kp (b__law_pick T) .nil pass0 (pa_cons (pv 0) (pa_cons pe_int pa_nil (star1 rfl)) (star1 rfl)) (by decide) (star1 rfl) (starAll rfl)) (pa_cons (pe_call (ok__law_of T) (hr.mono (by decide)) rfl T.m__law_of T.F__law_of.kp (b__law_of T) .nil pass0 (pa_cons (pv 0) (pa_cons (pe_lst (pa_cons pe_int (pa_cons pe_int (pa_cons pe_int (pa_cons pe_int (pa_cons pe_int pa_nil (star1 rfl)) (star1 rfl)) (star1 rfl)) (star1 rfl)) (star1 rfl))) pa_nil (star1 rfl)) (star1 rfl)) (by decide) (star1 rfl) (starAll rfl)) pa_nil (star1 rfl)) (star1 rfl)) (by rfl))
  (pss_cons (ps_set (i := 4) sc__law_names.nd rfl (Or.inl rfl) (pe_lst pa_nil))
  (pss_cons (ps_for PassesOwn.never rfl (pi_range1 rfl T.z_range (pa_cons pe_int pa_nil (star1 rfl))) (pg_name (i := 5) sc__law_names.nd rfl (Or.inl rfl)) (pss_cons (ps_set (i := 7) sc__law_names.nd rfl (Or.inl rfl) (pe_op op_mod (pe_op op_add (pv 2) (pe_op op_mul (pv 3) (pv 5))) pe_int))
  (pss_one (ps_expr (pe_bm PySem.F.plainAttrs_list PySem.F.slot_list_append PySem.F.type_list_append mt_append (pv 4) (pa_cons (pe_op op_add_str (pe_op op_add_str (pe_ix ix_str pe_str (pe_op op_mod (pv 7) pe_int) (fun _ _ => rfl)) (pe_ix ix_list (pe_lst (pa_cons pe_str (pa_cons pe_str (pa_cons pe_str pa_nil (star1 rfl)) (star1 rfl)) (star1 rfl))) (pe_op op_fdiv (pv 7) pe_int) (fun _ _ => rfl))) (pv 1)) pa_nil (star1 rfl)))))))
  (pss_cons (ps_for PassesOwn.never rfl (pi_tup (pe_tup (pa_cons pe_str (pa_cons pe_str (pa_cons pe_str (pa_cons pe_str (pa_cons pe_str pa_nil (star1 rfl)) (star1 rfl)) (star1 rfl)) (star1 rfl)) (star1 rfl)))) (pg_name (i := 6) sc__law_names.nd rfl (Or.inl rfl)) (pss_one (ps_if (PW.pt (pw_and (pt_cmpR op_eq (pe_call (ok__law_pick T) (hr.mono (by decide)) rfl T.m__law_pick T.F__law_pick.kp (b__law_pick T) .nil pass0 (pa_cons (pv 0) (pa_cons pe_int pa_nil (star1 rfl)) (star1 rfl)) (by decide) (star1 rfl) (starAll rfl)) pe_int (nomark _)) (pw_and1 (pt_cmpR op_notIn_seq (pv 6) (pv 4) (by with_unfolding_all rfl))))) (pss_one (ps_asg (pv 6) (pg_sub (pv 4) (pe_call (ok__law_pick T) (hr.mono (by decide)) rfl T.m__law_pick T.F__law_pick.kp (b__law_pick T) .nil pass0 (pa_cons (pv 0) (pa_cons pe_int pa_nil (star1 rfl)) (star1 rfl)) (by decide) (star1 rfl) (starAll rfl)) set_list))) pss_nil)))
  (pss_one (ps_ret (pv 4)))))))), ?_⟩
  -- the stem
  refine q_asgP ?_
  refine ⟨⟨_, rfl⟩, _, rfl, h, l, 7, rfl, A0, by decide, by decide, fun n H1 n0 n1 A1 kp1 => ⟨n, rfl, by omega, by omega, fun D hD => ?_⟩⟩
  obtain ⟨d1, d2⟩ := A1.fresh hD
  refine lc_range (lo := 0) (n := n.toNat) (fun i H' => Hand H' h l ∧ Kp h l H H' ∧ ∃ cs : List Nat, H' D = some (.lst ((cs.map fun c => (⟨#[c]⟩ : Str)).map V.str)) ∧ cs.length = i ∧ ∀ c ∈ cs, 97 ≤ c ∧ c ≤ 122) ?_ ?_ ?_
  · exact ⟨A1.new hD, kp1.trans (Kp.ex (Ex.new hD)), [], upd_same, rfl, fun c hc => by cases hc⟩
  · intro i H2 hi hP
    obtain ⟨A2, kp2, cs, hacc, hlen, hlet⟩ := hP
    refine ⟨rfl, tYesQ ?_⟩
    refine ⟨_, rfl, of_text (E := E0) A2 (by decide +kernel) (by decide +kernel) fun c H3 hc A3 kp3 => ?_⟩
    refine ⟨_, kp3 D _ d1 d2 hacc, sz_lt (by rw [List.length_map, List.length_map]; omega), A3.upd d1 d2, ?_, cs ++ [c], ?_, ?_, ?_⟩
    · intro a o m1 m2 ha
      have h1 := kp1 a o m1 m2 ha
      rw [upd_ne (fun z => by subst z; rw [hD] at h1; cases h1)]
      exact kp3 a o m1 m2 (kp2 a o m1 m2 ha)
    · rw [upd_same]
      simp
    · rw [List.length_append, hlen] <;> rfl
    · intro c' hc'
      rcases List.mem_append.mp hc' with hc' | hc'
      · exact hlet c' hc'
      · rw [List.mem_singleton.mp hc']
        have hall : ∀ c ∈ ("abdeghinoprstu" : Str).cps.toList, 97 ≤ c ∧ c ≤ 122 := by decide +kernel
        exact hall c hc
  intro H2 hP
  obtain ⟨A2, kp2, cs, hacc, hlen, hlet⟩ := hP
  have hcl : cs.length ≤ 6 := by omega
  refine ⟨_, D, cs.map fun c => (⟨#[c]⟩ : Str), rfl, rfl, Or.inl (sq_of hacc), ?_, ?_⟩
  · have e : ((cs.map fun c => (⟨#[c]⟩ : Str)).map (·.length)).sum = cs.length := by
      rw [List.map_map]
      have : (Str.length ∘ fun c => (⟨#[c]⟩ : Str)) = fun _ : Nat => 1 := by funext c; rfl
      have e2 : (cs.map fun _ : Nat => 1).sum = cs.length := by
        clear hacc hlen hlet hcl
        induction cs with
        | nil => rfl
        | cons c r ih => simp only [List.map_cons, List.sum_cons, List.length_cons, ih]; omega
      exact (congrArg (fun f => (cs.map f).sum) this).trans e2
    rw [e, List.length_map]
    have e0 : ("" : Str).length = 0 := by decide +kernel
    rw [e0]
    omega
  generalize hst : Txt.join "" (cs.map fun c => (⟨#[c]⟩ : Str)) = stem
  have hsc : stem.cps.toList = cs := by rw [← hst]; exact join_signs cs
  have hsl : stem.length ≤ 6 := by
    have : stem.length = stem.cps.toList.length := by simp [Str.length]
    rw [this, hsc]
    exact hcl
  -- first, step
  refine q_parP ?_
  refine ⟨_, rfl, h, l, 60, rfl, A2, by decide, by decide, fun first H3 f0 f1 A3 kp3 => ?_⟩
  refine ⟨_, rfl, (by show 5 ≤ sizeLine; decide), fun p hp => ?_⟩
  obtain ⟨p1, p2⟩ := A3.fresh hp
  refine of_list (E := E0) (A3.new hp) upd_same p1 p2 (by decide) (by decide) fun v H4 hv A4 kp4 => ?_
  obtain ⟨step, rfl, hstep⟩ : ∃ step : Int, v = .int step ∧ (step = 1 ∨ step = 7 ∨ step = 11 ∨ step = 13 ∨ step = 59) := by
    simp only [List.mem_cons, List.not_mem_nil, or_false] at hv
    rcases hv with h | h | h | h | h
    · exact ⟨1, h, by simp⟩
    · exact ⟨7, h, by simp⟩
    · exact ⟨11, h, by simp⟩
    · exact ⟨13, h, by simp⟩
    · exact ⟨59, h, by simp⟩
  have s0 : 0 ≤ step ∧ step ≤ 59 := by omega
  have kp5 : Kp h l H H4 := ((kp2.trans kp3).trans (Kp.ex (Ex.new hp))).trans kp4
  refine ⟨_, _, rfl, ?_⟩
  -- found = []
  refine q_asgP ?_
  refine ⟨(by show 0 ≤ sizeLine; decide), fun f hf => ?_⟩
  obtain ⟨f1', f2'⟩ := A4.fresh hf
  have fH : H f = none := by
    cases hx : H f with
    | none => rfl
    | some o => rw [kp5 f o f1' f2' hx] at hf; cases hf
  generalize hH5 : upd H4 f (.lst []) = H5
  have e5 : Ex H4 H5 := by rw [← hH5]; exact Ex.new hf
  have hf5 : H5 f = some (.lst []) := by rw [← hH5]; exact upd_same
  -- the sixty
  refine q_forR1 (n := 60) (ea_cons ev_c ea_nil) (by decide) (fun i σ' H' => Ex H4 H' ∧ H' f = some (.lst (((List.range i).map (nmOf first step cs)).map V.str)) ∧ ∃ c5 c6 c7, σ' = [some (.ref h), some (.str stem), some (.int first), some (.int step), some (.ref f), c5, c6, c7]) ?_ ?_ ?_
  · intro H6 e6
    exact ⟨e5.trans e6, e6 _ _ hf5, _, _, _, rfl⟩
  · intro i σ' H6 hi hP
    obtain ⟨e6, hf6, c5, c6, c7, rfl⟩ := hP
    generalize hsp : (first + step * (i : Int)) % 60 = spot
    have sp0 : 0 ≤ spot := by rw [← hsp]; exact Int.emod_nonneg _ (by decide)
    have sp1 : spot < 60 := by rw [← hsp]; exact Int.emod_lt_of_pos _ (by decide)
    refine q_asg (v := .int spot) (ev_is (ev_I (by decide) (ev_I0 (ev_var rfl) (ev_I (C := CMul) (Or.inl ⟨by omega, by omega⟩) (ev_var rfl) (ev_var rfl))) ev_c) (by rw [hsp])) fun H7 e7 => ?_
    have hf7 := e7 _ _ hf6
    have ev1 : Ev (tOp rIxS (tC (.str "abcdefghijklmnopqrstuvwxyz")) (tOp (rI (fun _ j => 0 < j) fun i j => .int (i % j)) (tVar 7) (tC (.int 26)))) [some (.ref h), some (.str stem), some (.int first), some (.int step), some (.ref f), some (.int (i : Int)), c6, some (.int spot)] H7 (.str ⟨#[97 + spot.toNat % 26]⟩) := by
      refine ev_op ev_c (ev_I (by decide) (ev_var rfl) ev_c) (rv_ixS (c := 97 + spot.toNat % 26) (by decide +kernel) ?_)
      have h26 : spot % 26 = ((spot.toNat % 26 : Nat) : Int) := by omega
      rw [h26]
      have := alpha_at ⟨spot.toNat % 26, Nat.mod_lt _ (by decide)⟩
      exact atI_nat this
    have ev2 : Ev (tOp (rIxL K) (tLst (tCons (tC (.str "")) (tCons (tC (.str "q")) (tCons (tC (.str "x")) tNil)))) (tOp (rI CDiv fun i j => .int (i / j)) (tVar 7) (tC (.int 26)))) [some (.ref h), some (.str stem), some (.int first), some (.int step), some (.ref f), some (.int (i : Int)), c6, some (.int spot)] H7 (.str ⟨(midOf (spot.toNat / 26)).toArray⟩) := by
      refine ev_opL1 (xs := [.str "", .str "q", .str "x"]) (el_lst (ea_cons ev_c (ea_cons ev_c (ea_cons ev_c ea_nil))) (by decide)) (fun H8 e8 => ev_I (C := CDiv) (by constructor <;> decide) (ev_var rfl) ev_c) (fun p H8 hp8 e8 => rv_ixL (sq_of hp8) ?_)
      have c : spot / 26 = 0 ∨ spot / 26 = 1 ∨ spot / 26 = 2 := by omega
      have hq : spot.toNat / 26 = (spot / 26).toNat := by omega
      rw [hq]
      rcases c with c | c | c <;> rw [c]
      · exact (by decide +kernel : atI [V.str "", V.str "q", V.str "x"] 0 = some (V.str ⟨(midOf (0 : Int).toNat).toArray⟩))
      · exact (by decide +kernel : atI [V.str "", V.str "q", V.str "x"] 1 = some (V.str ⟨(midOf (1 : Int).toNat).toArray⟩))
      · exact (by decide +kernel : atI [V.str "", V.str "q", V.str "x"] 2 = some (V.str ⟨(midOf (2 : Int).toNat).toArray⟩))
    have hml : (midOf (spot.toNat / 26)).length ≤ 1 := by
      unfold midOf
      split
      · simp
      · split <;> simp
    have l1 : (⟨#[97 + spot.toNat % 26]⟩ : Str).length = 1 := rfl
    have l2 : (⟨(midOf (spot.toNat / 26)).toArray⟩ : Str).length ≤ 1 := by simpa [Str.length] using hml
    refine s_app (v := .str (nmOf first step cs i)) hf7 (ev_var rfl) (ev_is (ev_addS (ev_addS ev1 ev2 (by omega)) (ev_var rfl) (by rw [Str.length_append]; omega)) ?_) (by rw [List.length_map, List.length_map, List.length_range]; omega) fun H8 e8 => ?_
    · congr 1
      refine TL.ext_tl ?_
      unfold nmOf
      rw [hsp]
      show ((#[97 + spot.toNat % 26] ++ (midOf (spot.toNat / 26)).toArray) ++ stem.cps).toList = (spotL spot.toNat cs).toArray.toList
      unfold spotL
      simp [← hsc]
    · refine ⟨Ex.mut ((e6.trans e7).trans e8) hf, ?_, _, _, _, rfl⟩
      rw [upd_same, List.range_succ]
      simp
  intro σ' H6 hP
  obtain ⟨e6, hf6, c5, c6, c7, rfl⟩ := hP
  have A6 := A4.ex e6
  -- the words
  refine q_forTu (K := K) (xs := [.str "end", .str "hand", .str "group", .str "let", .str "program"]) (eu_tup (ea_cons ev_c (ea_cons ev_c (ea_cons ev_c (ea_cons ev_c (ea_cons ev_c ea_nil))))) (by decide)) (fun p i σ' H' => H' p = some (.tup [.str "end", .str "hand", .str "group", .str "let", .str "program"]) ∧ Hand H' h l ∧ Kp h l H H' ∧ ∃ xs : List Str, H' f = some (.lst (xs.map V.str)) ∧ xs.length = 60 ∧ xs.Nodup ∧ (∀ s ∈ xs, nameOk s) ∧ ∃ c5 c6 c7, σ' = [some (.ref h), some (.str stem), some (.int first), some (.int step), some (.ref f), c5, c6, c7]) ?_ ?_ ?_ ?_
  · intro p H7 hp e7 hp7
    refine ⟨hp7, A6.ex e7, kp5.trans (Kp.ex (e6.trans e7)), (List.range 60).map (nmOf first step cs), e7 _ _ hf6, by rw [List.length_map, List.length_range], map_nodup (nm_inj hstep), ?_, _, _, _, rfl⟩
    intro s hs
    obtain ⟨k, _, rfl⟩ := List.mem_map.mp hs
    exact nm_ok hlet hcl k
  · intro p i σ' H' _ hP
    exact st_of hP.1
  · intro p i x σ' H7 hx hP
    obtain ⟨hp7, A7, kp7, xs, hf7, hxl, hnd, hok, c5, c6, c7, rfl⟩ := hP
    obtain ⟨wd, rfl, hwd⟩ : ∃ wd : Str, x = .str wd ∧ nameOk wd := by
      have := List.mem_of_getElem? hx
      simp only [List.mem_cons, List.not_mem_nil, or_false] at this
      rcases this with h | h | h | h | h
      · exact ⟨_, h, ⟨by decide +kernel, by decide +kernel, by decide +kernel⟩⟩
      · exact ⟨_, h, ⟨by decide +kernel, by decide +kernel, by decide +kernel⟩⟩
      · exact ⟨_, h, ⟨by decide +kernel, by decide +kernel, by decide +kernel⟩⟩
      · exact ⟨_, h, ⟨by decide +kernel, by decide +kernel, by decide +kernel⟩⟩
      · exact ⟨_, h, ⟨by decide +kernel, by decide +kernel, by decide +kernel⟩⟩
    refine ⟨_, rfl, h, l, 4, rfl, A7, by decide, by decide, fun r H8 r0 r1 A8 kp8 => ?_⟩
    have hf8 := kp8 f _ f1' f2' hf7
    have hp8 := kp_tup A7 kp8 hp7
    refine ⟨rfl, _, rfl, ?_⟩
    refine ite2 (fun c => ?_) (fun c => ?_)
    · refine ⟨_, rfl, _, rfl, f, _, rfl, Or.inl (sq_of hf8), rfl, NL.flat_strs xs, _, rfl, ?_⟩
      refine ite2 (fun c2 => ?_) (fun c2 => ?_)
      · have hni : wd ∉ xs := by
          rw [in_strs] at c2
          simpa using c2
        refine ⟨_, rfl, _, rfl, _, rfl, h, l, 60, rfl, A8, by decide, by decide, fun j H9 j0 j1 A9 kp9 => ?_⟩
        have hf9 := kp9 f _ f1' f2' hf8
        refine ⟨f, xs.map V.str, j, j.toNat, rfl, rfl, hf9, ?_, ?_⟩
        · unfold ixN
          rw [if_pos j0, if_pos (by rw [List.length_map, hxl]; exact j1)]
        · refine ⟨TK.lst hf9 _ _ (kp_tup A8 kp9 hp8), A9.upd f1' f2', ?_, xs.set j.toNat wd, ?_, by rw [List.length_set]; exact hxl, nodup_set hnd hni _, ?_, _, _, _, rfl⟩
          · intro a o m1 m2 ha
            rw [upd_ne (fun z => by subst z; rw [fH] at ha; cases ha)]
            exact ((kp7.trans kp8).trans kp9) a o m1 m2 ha
          · rw [upd_same, List.map_set]
          · intro s hs
            rcases List.mem_or_eq_of_mem_set hs with hs | hs
            · exact hok s hs
            · rw [hs]
              exact hwd
      · exact ⟨hp8, A8, kp7.trans kp8, xs, hf8, hxl, hnd, hok, _, _, _, rfl⟩
    · exact ⟨hp8, A8, kp7.trans kp8, xs, hf8, hxl, hnd, hok, _, _, _, rfl⟩
  · intro p σ' H7 hP
    obtain ⟨hp7, A7, kp7, xs, hf7, hxl, hnd, hok, c5, c6, c7, rfl⟩ := hP
    refine s_ret (v := .ref f) (ev_var rfl) fun H8 e8 => ?_
    exact q f xs H8 (A7.ex e8) (kp7.trans (Kp.ex e8)) fH f1' f2' (e8 _ _ hf7) hxl hnd hok
end

/-! ### a group drawn -/
def spGr (d : Nat) : Sp := fun vs H Q _ => ∃ (h l nm : Addr) (xs : List Str) (w : Nat), vs = [.ref h, .ref nm, .int d, .int w] ∧ Hand H h l ∧ nm ≠ h ∧ nm ≠ l ∧ H nm = some (.lst (xs.map V.str)) ∧ 1 ≤ w ∧ w ≤ 100 ∧ mem (d + 1) w ≤ xs.length ∧ xs.length ≤ 1000 ∧
  ∀ (v : V) (n : Str) (b : Int) (ms : List Tr) (ys : List Str) (H' : Hp), Hand H' h l → Kn h l nm H H' → H' nm = some (.lst (ys.map V.str)) → xs = ys ++ (Tr.grp n b ms).nms.reverse → TrV H' v (.grp n b ms) → (Tr.grp n b ms).ok → (Tr.grp n b ms).deep ≤ d + 1 → (Tr.grp n b ms).size ≤ mem (d + 1) w → Q v H'
section
variable {P : Program} {w : World} {K : PySem.W.Frag} {mg : Str → Option Value} {base : Heap}
theorem gr_step (T : Tp w K mg) {d : Nat} {spR : Sp} (ih : FnOk P w K mg base CX0 (d + 2) T.f__law_group T.d__law_group ["_law_hand_here", "_law_names_here", "_law_deep", "_law_wide"] spR) (hR : ∀ d', d = d' + 1 → spR = spGr d') :
    FnOk P w K mg base CX0 (d + 3) T.f__law_group T.d__law_group ["_law_hand_here", "_law_names_here", "_law_deep", "_law_wide"] (spGr d) := by
  refine T.F__law_group.ok sc__law_group (fun vs H Q E h => ?_) (fun cdv A outer s H vs Q E hr h => ?_)
  · obtain ⟨h, l, nm, xs, w, rfl, _⟩ := h
    rfl
  obtain ⟨h, l, nm, xs, wd, rfl, A0, nh, nl, hnm, w1, w2, hneed, hxl, q⟩ := h
  refine ⟨_, (pss_cons (ps_set (i := 4) sc__law_group.nd rfl (Or.inl rfl) (pe_call (ok__law_of T) (hr.mono (by omega)) rfl T.m__law_of T.F__law_of.kp (b__law_of T) .nil pass0 (pa_cons (pv 0) (pa_cons (pe_lst (pa_cons pe_int (pa_cons pe_int (pa_cons pe_int (pa_cons pe_int (pa_cons (pe_op op_add pe_int (pe_call (ok__law_pick T) (hr.mono (by omega)) rfl T.m__law_pick T.F__law_pick.kp (b__law_pick T) .nil pass0 (pa_cons (pv 0) (pa_cons pe_int pa_nil (star1 rfl)) (star1 rfl)) (by decide) (star1 rfl) (starAll rfl))) (pa_cons pe_int pa_nil (star1 rfl)) (star1 rfl)) (star1 rfl)) (star1 rfl)) (star1 rfl)) (star1 rfl))) pa_nil (star1 rfl)) (star1 rfl)) (by decide) (star1 rfl) (starAll rfl)))
  (pss_cons (ps_par rfl sc__law_group.nd (i := 5) (j := 6) rfl rfl (by decide) rfl rfl (pa_cons (pe_bm0 PySem.F.plainAttrs_list PySem.F.slot_list_pop PySem.F.type_list_pop mt_pop (pv 1)) (pa_cons (pe_lst pa_nil) pa_nil (star1 rfl)) (star1 rfl)) (by rfl))
  (pss_cons (ps_for PassesOwn.never rfl (pi_range1 rfl T.z_range (pa_cons (pe_op op_add pe_int (pe_call (ok__law_pick T) (hr.mono (by omega)) rfl T.m__law_pick T.F__law_pick.kp (b__law_pick T) .nil pass0 (pa_cons (pv 0) (pa_cons (pv 3) pa_nil (star1 rfl)) (star1 rfl)) (by decide) (star1 rfl) (starAll rfl))) pa_nil (star1 rfl))) (pg_name (i := 7) sc__law_group.nd rfl (Or.inl rfl)) (pss_one (ps_if (PW.pt (pw_and (pt_cmpR op_gt (pv 2) pe_int (nomark _)) (pw_and1 (pt_cmpR op_gt (pe_call (ok__law_pick T) (hr.mono (by omega)) rfl T.m__law_pick T.F__law_pick.kp (b__law_pick T) .nil pass0 (pa_cons (pv 0) (pa_cons pe_int pa_nil (star1 rfl)) (star1 rfl)) (by decide) (star1 rfl) (starAll rfl)) pe_int (nomark _))))) (pss_one (ps_expr (pe_bm PySem.F.plainAttrs_list PySem.F.slot_list_append PySem.F.type_list_append mt_append (pv 6) (pa_cons (pe_call ih hr rfl T.m__law_group T.F__law_group.kp (b__law_group T) .nil pass0 (pa_cons (pv 0) (pa_cons (pv 1) (pa_cons (pe_op op_sub (pv 2) pe_int) (pa_cons (pv 3) pa_nil (star1 rfl)) (star1 rfl)) (star1 rfl)) (star1 rfl)) (by decide) (star1 rfl) (starAll rfl)) pa_nil (star1 rfl))))) (pss_one (ps_expr (pe_bm PySem.F.plainAttrs_list PySem.F.slot_list_append PySem.F.type_list_append mt_append (pv 6) (pa_cons (pe_bm0 PySem.F.plainAttrs_list PySem.F.slot_list_pop PySem.F.type_list_pop mt_pop (pv 1)) pa_nil (star1 rfl))))))))
  (pss_one (ps_ret (pe_tup (pa_cons (pv 5) (pa_cons (pv 4) (pa_cons (pe_callTy call_tuple_of rfl T.z_tuple (by decide +kernel) (pa_cons (pv 6) pa_nil (star1 rfl)) (by decide) (by decide) (star1 rfl) (starAll rfl)) pa_nil (star1 rfl)) (star1 rfl)) (star1 rfl)))))))), ?_⟩
  -- bound
  refine q_asgP ?_
  refine ⟨_, rfl, _, rfl, h, l, 40, rfl, A0, by decide, by decide, fun r H1 r0 r1 A1 kp1 => ⟨1, r, rfl, rfl, (by show 6 ≤ sizeLine; decide), fun p hp => ?_⟩⟩
  obtain ⟨p1, p2⟩ := A1.fresh hp
  refine of_list (E := E0) (A1.new hp) upd_same p1 p2 (Nat.le_add_left 1 _) (by simp) fun v H2 hv A2 kp2 => ?_
  obtain ⟨bd, rfl, b1, b2⟩ : ∃ bd : Int, v = .int bd ∧ 1 ≤ bd ∧ bd ≤ 99999999 := by
    simp only [List.mem_cons, List.not_mem_nil, or_false] at hv
    rcases hv with h | h | h | h | h | h
    · exact ⟨1, h, by decide, by decide⟩
    · exact ⟨1, h, by decide, by decide⟩
    · exact ⟨2, h, by decide, by decide⟩
    · exact ⟨3, h, by decide, by decide⟩
    · exact ⟨1 + r, h, by omega, by omega⟩
    · exact ⟨99999999, h, by decide, by decide⟩
  have kp3 : Kp h l H H2 := (kp1.trans (Kp.ex (Ex.new hp))).trans kp2
  have hnm2 := kp3 nm _ nh nl hnm
  have hmp := mem_pos d wd
  have hneed' : 1 + wd * mem d wd ≤ xs.length := hneed
  obtain ⟨xs', n, rfl⟩ := last_of (xs := xs) (by omega)
  have hxl' : wd * mem d wd ≤ xs'.length := by simp at hneed'; omega
  -- name, members
  refine q_parP ?_
  refine ⟨_, rfl, Or.inl ⟨rfl, _, sq_of hnm2⟩, nm, _, .str n, rfl, rfl, hnm2, last_get xs' n, (by show 0 ≤ sizeLine; decide), fun m hm => ⟨_, _, rfl, ?_⟩⟩
  rw [last_drop] at hm ⊢
  have kn0 : Kn h l nm H (upd H2 nm (.lst (xs'.map V.str))) := (Kn.kp kp3).put
  have A3 : Hand (upd H2 nm (.lst (xs'.map V.str))) h l := A2.upd nh nl
  obtain ⟨m1, m2⟩ := A3.fresh hm
  have m3 : m ≠ nm := fun z => by subst z; rw [upd_same] at hm; cases hm
  have mH : H m = none := by
    cases hx : H m with
    | none => rfl
    | some o => rw [kn0 m o m1 m2 m3 hx] at hm; cases hm
  generalize hH3 : upd (upd H2 nm (.lst (xs'.map V.str))) m (.lst []) = H3
  have A4 : Hand H3 h l := by rw [← hH3]; exact A3.new hm
  have kn1 : Kn h l nm H H3 := by rw [← hH3]; exact kn0.mut mH
  have hnm3 : H3 nm = some (.lst (xs'.map V.str)) := by rw [← hH3, upd_ne (Ne.symm m3)]; exact upd_same
  have hm3 : H3 m = some (.lst []) := by rw [← hH3]; exact upd_same
  -- the members
  refine q_forU ?_
  refine ⟨_, rfl, _, rfl, h, l, (wd : Int), rfl, A4, by omega, by omega, fun k H4 k0 k1 A5 kp4 => ⟨1, k, rfl, rfl, 1 + k, rfl, by omega, by omega, ?_⟩⟩
  have hk : (1 + k).toNat ≤ wd := by omega
  refine rng_turns (n := (1 + k).toNat) (fun i σ' H' => Hand H' h l ∧ Kn h l nm H H' ∧ ∃ (ys : List Str) (ts : List Tr) (vs : List V), H' nm = some (.lst (ys.map V.str)) ∧ xs' = ys ++ (nmss ts).reverse ∧ H' m = some (.lst vs) ∧ TrVs H' vs ts ∧ ts.length = i ∧ deeps ts ≤ d ∧ sizes ts ≤ i * mem d wd ∧ oks ts ∧
    ∃ c, σ' = [some (.ref h), some (.ref nm), some (.int d), some (.int wd), some (.int bd), some (.str n), some (.ref m), c]) ?_ ?_ ?_
  · refine ⟨A5, kn1.trans (Kn.kp kp4), xs', [], [], kp4 nm _ nh nl hnm3, by simp [nmss], kp4 m _ m1 m2 hm3, .nil, rfl, by simp [deeps], by simp [sizes], by simp [oks], none, rfl⟩
  · intro i σ' H5 hi hP
    obtain ⟨A6, kn5, ys, ts, vs, hnm5, hxs, hm5, htv, htl, htd, hts, hto, c, rfl⟩ := hP
    have hyl : mem d wd ≤ ys.length := by
      have h1 : xs'.length = ys.length + sizes ts := by rw [hxs, List.length_append, List.length_reverse, nmss_len]
      have h2 : (i + 1) * mem d wd ≤ wd * mem d wd := Nat.mul_le_mul_right _ (by omega)
      have h3 : (i + 1) * mem d wd = i * mem d wd + mem d wd := Nat.succ_mul _ _
      omega
    have hvl : vs.length ≤ 1000 := by rw [trvs_len htv, htl]; omega
    have hsu : (i + 1) * mem d wd = i * mem d wd + mem d wd := Nat.succ_mul _ _
    -- a hand
    have popB : ∀ {D : Ends} {H6 : Hp}, Hand H6 h l → Kp h l H5 H6 → (∀ σ2 H7, (Hand H7 h l ∧ Kn h l nm H H7 ∧ ∃ (ys : List Str) (ts : List Tr) (vs : List V), H7 nm = some (.lst (ys.map V.str)) ∧ xs' = ys ++ (nmss ts).reverse ∧ H7 m = some (.lst vs) ∧ TrVs H7 vs ts ∧ ts.length = i + 1 ∧ deeps ts ≤ d ∧ sizes ts ≤ (i + 1) * mem d wd ∧ oks ts ∧
        ∃ c, σ2 = [some (.ref h), some (.ref nm), some (.int d), some (.int wd), some (.int bd), some (.str n), some (.ref m), c]) → D.nx σ2 H7) →
        tDrop (tBM K "list" rAppend (tVar 6) (tCons (tBM0 K "list" rPop (tVar 1)) tNil)) D [some (.ref h), some (.ref nm), some (.int d), some (.int wd), some (.int bd), some (.str n), some (.ref m), some (.int (0 + (i : Int)))] H6 := by
      intro D H6 A7 kp6 next
      have hnm6 := kp6 nm _ nh nl hnm5
      have hm6 := kp6 m _ m1 m2 hm5
      obtain ⟨ys', y, rfl⟩ := last_of (xs := ys) (by omega)
      refine ⟨.ref m, rfl, Or.inl ⟨rfl, vs, sq_of hm6⟩, _, rfl, Or.inl ⟨rfl, _, sq_of hnm6⟩, nm, _, .str y, rfl, rfl, hnm6, last_get ys' y, ?_⟩
      rw [last_drop]
      have hm7 : upd H6 nm (.lst (ys'.map V.str)) m = some (.lst vs) := by rw [upd_ne m3]; exact hm6
      refine ⟨m, vs, .str y, rfl, rfl, hm7, sz_lt (by omega), next _ _ ⟨(A7.upd nh nl).upd m1 m2, ((kn5.trans (Kn.kp kp6)).put).mut mH, ys', ts ++ [.hand y], vs ++ [.str y], ?_, ?_, upd_same, ?_, ?_, ?_, ?_, ?_, _, rfl⟩⟩
      · rw [upd_ne (Ne.symm m3)]; exact upd_same
      · rw [hxs, nmss_app]; simp [nmss, Tr.nms]
      · have k1 : TK H5 H6 := (Kn.kp kp6 : Kn h l nm H5 H6).tk A6 hnm5
        exact trvs_app (trvs_tk ((k1.trans (TK.lst hnm6)).trans (TK.lst hm7)) _ _ htv) (.cons (.hand y) .nil)
      · rw [List.length_append, htl]; rfl
      · rw [deeps_app]; simp [deeps, Tr.deep]; exact htd
      · rw [sizes_app]; simp [sizes, Tr.size]; omega
      · exact oks_app hto (by simp [oks, Tr.ok])
    refine ⟨_, rfl, (d : Int), 0, rfl, rfl, _, rfl, ?_⟩
    refine ite2 (fun c1 => ?_) (fun c1 => ?_)
    · refine ⟨_, rfl, h, l, 3, rfl, A6, by decide, by decide, fun r5 H6 r50 r51 A7 kp6 => ⟨r5, 0, rfl, rfl, _, rfl, ?_⟩⟩
      refine ite2 (fun c2 => ?_) (fun c2 => ?_)
      · have hd0 : (0 : Int) < (d : Int) := of_decide_eq_true c1
        obtain ⟨d', rfl⟩ : ∃ d', d = d' + 1 := ⟨d - 1, by omega⟩
        have eR := hR d' rfl
        subst eR
        have hnm6 := kp6 nm _ nh nl hnm5
        have hm6 := kp6 m _ m1 m2 hm5
        refine ⟨.ref m, rfl, Or.inl ⟨rfl, vs, sq_of hm6⟩, _, rfl, _, rfl, _, rfl, _, _, rfl, rfl, _, rfl, h, l, nm, ys, wd, ?_, A7, nh, nl, hnm6, w1, w2, hyl, ?_, fun v n' b' ms' zs H7 A8 kn7 hnm7 hys tv tok tdp tsz => ?_⟩
        · have e : ((d' + 1 : Nat) : Int) - 1 = (d' : Int) := by omega
          show [V.ref h, V.ref nm, V.int (((d' + 1 : Nat) : Int) - 1), V.int (wd : Int)] = _
          rw [e]
        · have : xs'.length = ys.length + sizes ts := by rw [hxs, List.length_append, List.length_reverse, nmss_len]
          simp at hxl
          omega
        have hm7 := kn7 m _ m1 m2 m3 hm6
        have k1 : TK H5 H6 := (Kn.kp kp6 : Kn h l nm H5 H6).tk A6 hnm5
        have k2 : TK H6 H7 := kn7.tk A7 hnm6
        refine ⟨m, vs, v, rfl, rfl, hm7, sz_lt (by omega), A8.upd m1 m2, ((kn5.trans (Kn.kp kp6)).trans kn7).mut mH, zs, ts ++ [.grp n' b' ms'], vs ++ [v], ?_, ?_, upd_same, ?_, ?_, ?_, ?_, ?_, _, rfl⟩
        · rw [upd_ne (Ne.symm m3)]; exact hnm7
        · rw [hxs, hys, nmss_app]; simp [nmss]
        · exact trvs_app (trvs_tk ((k1.trans k2).trans (TK.lst hm7)) _ _ htv) (.cons (trv_tk (TK.lst hm7) _ _ tv) .nil)
        · rw [List.length_append, htl]; rfl
        · rw [deeps_app]
          simp only [deeps]
          omega
        · rw [sizes_app]
          simp only [sizes]
          omega
        · exact oks_app hto ⟨tok, by simp [oks]⟩
      · exact popB A7 kp6 (fun σ2 H7 h7 => h7)
    · exact popB A6 (Kp.refl h l H5) (fun σ2 H7 h7 => h7)
  · intro σ' H5 hP
    obtain ⟨A6, kn5, ys, ts, vs, hnm5, hxs, hm5, htv, htl, htd, hts, hto, c, rfl⟩ := hP
    refine s_retP ?_
    refine ⟨_, rfl, _, rfl, _, rfl, m, vs, rfl, Or.inl ⟨sq_of hm5, fun t ht => ⟨(by show 3 ≤ sizeLine; decide), fun a ha => ?_⟩⟩⟩
    have e1 : Ex H5 (upd (upd H5 t (.tup vs)) a (.tup [.str n, .int bd, .ref t])) := (Ex.new ht).trans (Ex.new ha)
    refine q (.ref a) n bd ts ys _ (A6.ex e1) (kn5.trans (Kn.ex e1)) (e1 _ _ hnm5) ?_ (.grp upd_same ((Ex.new ha) _ _ upd_same) (trvs_tk (TK.ex e1) _ _ htv)) ?_ ?_ ?_
    · rw [hxs]; simp [Tr.nms]
    · refine ⟨b1, b2, ?_, hto⟩
      intro z
      rw [z] at htl
      simp at htl
      omega
    · simp only [Tr.deep]
      omega
    · have h2 : (1 + k).toNat * mem d wd ≤ wd * mem d wd := Nat.mul_le_mul_right _ hk
      have h3 : mem (d + 1) wd = 1 + wd * mem d wd := rfl
      simp only [Tr.size]
      omega
end

section
variable {P : Program} {w : World} {K : PySem.W.Frag} {mg : Str → Option Value} {base : Heap}
theorem gr_all (T : Tp w K mg) : ∀ d, FnOk P w K mg base CX0 (d + 3) T.f__law_group T.d__law_group ["_law_hand_here", "_law_names_here", "_law_deep", "_law_wide"] (spGr d)
  | 0 => gr_step T (spR := fun _ _ _ _ => False) ⟨fun _ _ _ _ h => h.elim, fun _ _ _ _ _ _ _ _ _ _ _ _ _ h => h.elim⟩ (fun d' h => by cases h)
  | d + 1 => gr_step T (gr_all T d) (fun d' h => by cases h; rfl)
def spGrA : Sp := fun vs H Q E => ∃ d, d ≤ 7 ∧ spGr d vs H Q E
theorem ok__law_group (T : Tp w K mg) : FnOk P w K mg base CX0 10 T.f__law_group T.d__law_group ["_law_hand_here", "_law_names_here", "_law_deep", "_law_wide"] spGrA :=
  ⟨fun vs H Q E h => by
    obtain ⟨d, _, h⟩ := h
    exact (gr_all (P := P) (base := base) T d).len vs H Q E h, fun A outer s H args us vs Q E hr e0 hb r h => by
    obtain ⟨d, hd, h⟩ := h
    exact ((gr_all T d).mono (by omega)).run A outer s H args us vs Q E hr e0 hb r h⟩
/-- deep and wide, such that the names are enough -/
def sizeOk (v : V) (H : Hp) : Prop := ∃ (t : Addr) (d wd : Nat), v = .ref t ∧ H t = some (.tup [.int d, .int wd]) ∧ d ≤ 7 ∧ 1 ≤ wd ∧ wd ≤ 100 ∧ mem (d + 1) wd ≤ 60
def spSizes : Sp := fun vs H Q _ => vs = [] ∧ ∀ a xs H', Ex H H' → H a = none → H' a = some (.lst xs) → 1 ≤ xs.length → xs.length ≤ 100 → (∀ v ∈ xs, sizeOk v H') → Q (.ref a) H'
def spPlan : Sp := fun vs H Q _ => ∃ (h l sa : Addr) (xs : List V), vs = [.ref h, .ref sa] ∧ Hand H h l ∧ sa ≠ h ∧ sa ≠ l ∧ H sa = some (.lst xs) ∧ 1 ≤ xs.length ∧ xs.length ≤ 100 ∧ (∀ v ∈ xs, sizeOk v H) ∧
  ∀ (v : V) (n : Str) (b : Int) (ms : List Tr) (H' : Hp), Hand H' h l → Kp h l H H' → TrV H' v (.grp n b ms) → (Tr.grp n b ms).ok → (Tr.grp n b ms).deep ≤ 8 → (Tr.grp n b ms).size ≤ 60 → (Tr.grp n b ms).nms.Nodup → (∀ x ∈ (Tr.grp n b ms).nms, nameOk x) → Q v H'
theorem ok__law_plan (T : Tp w K mg) : FnOk P w K mg base CX0 11 T.f__law_plan T.d__law_plan ["_law_hand_here", "_law_sizes_here"] spPlan := by
  refine T.F__law_plan.ok sc__law_plan (fun vs H Q E h => ?_) (fun cdv A outer s H vs Q E hr h => ?_)
  · obtain ⟨h, l, sa, xs, rfl, _⟩ := h
    rfl
  obtain ⟨h, l, sa, xs, rfl, A0, n1, n2, hsa, x1, x2, hxs, q⟩ := h
  refine ⟨_, (pss_cons (ps_asg (pe_call (ok__law_of T) (hr.mono (by decide)) rfl T.m__law_of T.F__law_of.kp (b__law_of T) .nil pass0 (pa_cons (pv 0) (pa_cons (pv 1) pa_nil (star1 rfl)) (star1 rfl)) (by decide) (star1 rfl) (starAll rfl)) (pg_tup rfl (pgs_cons (pg_name (i := 2) sc__law_plan.nd rfl (Or.inl rfl)) (pgs_cons (pg_name (i := 3) sc__law_plan.nd rfl (Or.inl rfl)) pgs_nil))))
  (pss_one (ps_ret (pe_call (ok__law_group T) (hr.mono (by decide)) rfl T.m__law_group T.F__law_group.kp (b__law_group T) .nil pass0 (pa_cons (pv 0) (pa_cons (pe_call (ok__law_names T) (hr.mono (by decide)) rfl T.m__law_names T.F__law_names.kp (b__law_names T) .nil pass0 (pa_cons (pv 0) pa_nil (star1 rfl)) (by decide) (star1 rfl) (starAll rfl)) (pa_cons (pv 2) (pa_cons (pv 3) pa_nil (star1 rfl)) (star1 rfl)) (star1 rfl)) (star1 rfl)) (by decide) (star1 rfl) (starAll rfl))))), ?_⟩
  refine q_asgG ?_
  refine ⟨_, rfl, _, rfl, of_list (E := E0) A0 hsa n1 n2 x1 (by omega) fun v H1 hv A1 kp1 => ?_⟩
  obtain ⟨t, d, wd, rfl, ht, d7, w1, w2, hm⟩ := hxs v hv
  refine ⟨t, _, rfl, st_of (kp_tup A0 kp1 ht), rfl, _, _, rfl, _, _, rfl, rfl, ?_⟩
  refine s_retP ?_
  refine ⟨_, rfl, _, rfl, h, l, rfl, A1, fun f ns H2 A2 kp2 hf f1 f2 hf2 nl nd nok => ?_⟩
  refine ⟨_, rfl, _, rfl, d, d7, h, l, f, ns, wd, rfl, A2, f1, f2, hf2, w1, w2, by omega, by omega, fun v n b ms ys H3 A3 kn3 hys hns tv tok tdp tsz => ?_⟩
  have hsub : ∀ x ∈ (Tr.grp n b ms).nms, x ∈ ns := fun x hx => by
    rw [hns]
    exact List.mem_append_right _ (List.mem_reverse.mpr hx)
  refine q v n b ms H3 A3 ?_ tv tok (by omega) (by omega) ?_ (fun x hx => nok x (hsub x hx))
  · intro a o m1 m2 ha
    refine kn3 a o m1 m2 (fun z => ?_) (kp2 a o m1 m2 (kp1 a o m1 m2 ha))
    subst z
    rw [kp1 a o m1 m2 ha] at hf
    cases hf
  · rw [hns] at nd
    have := (List.nodup_append.mp nd).2.1
    exact nodup_rev this
end

section
variable {σ : L2.St} {H : Hp} {tr : TA}
def SA (n : Nat) (ta : TA) (σ : L2.St) (H : Hp) : Prop := ∀ H1, Ex H H1 → ∀ Q : List V → Hp → Prop, (∀ vs H2, Ex H1 H2 → vs.length = n → (∀ v ∈ vs, sizeOk v H2) → Q vs H2) → ta σ H1 Q
theorem sizeOk.ex {v : V} {H H' : Hp} (h : sizeOk v H) (e : Ex H H') : sizeOk v H' := by
  obtain ⟨t, d, wd, h1, h2, h3⟩ := h
  exact ⟨t, d, wd, h1, e _ _ h2, h3⟩
theorem sa_nil : SA 0 tNil σ H := fun H1 _ Q q => q [] H1 (Ex.refl H1) rfl (fun v h => by cases h)
theorem sa_cons {n : Nat} (d wd : Nat) (d7 : d ≤ 7) (w1 : 1 ≤ wd) (w2 : wd ≤ 100) (hm : mem (d + 1) wd ≤ 60) (hr : SA n tr σ H) : SA (n + 1) (tCons (tTup (tCons (tC (.int d)) (tCons (tC (.int wd)) tNil))) tr) σ H := fun H1 e Q q =>
  ⟨(by show 2 ≤ sizeLine; decide), fun t ht => hr _ (e.trans (Ex.new ht)) _ fun vs H3 e3 hl hvs => q (.ref t :: vs) H3 ((Ex.new ht).trans e3) (by rw [List.length_cons, hl]) fun v hv => by
    rcases List.mem_cons.mp hv with rfl | hv
    · exact ⟨t, d, wd, rfl, e3 _ _ upd_same, d7, w1, w2, hm⟩
    · exact hvs v hv⟩
end

section
variable {P : Program} {w : World} {K : PySem.W.Frag} {mg : Str → Option Value} {base : Heap}
theorem ok__law_sizes (T : Tp w K mg) : FnOk P w K mg base CX0 1 T.f__law_sizes T.d__law_sizes [] spSizes := by
  refine T.F__law_sizes.ok sc__law_sizes (fun vs H Q E h => ?_) (fun cdv A outer s H vs Q E hr h => ?_)
  · obtain ⟨rfl, _⟩ := h
    rfl
  obtain ⟨rfl, q⟩ := h
  refine ⟨_, (pss_one (ps_ret (pe_lst (pa_cons (pe_tup (pa_cons pe_int (pa_cons pe_int pa_nil (star1 rfl)) (star1 rfl))) (pa_cons (pe_tup (pa_cons pe_int (pa_cons pe_int pa_nil (star1 rfl)) (star1 rfl))) (pa_cons (pe_tup (pa_cons pe_int (pa_cons pe_int pa_nil (star1 rfl)) (star1 rfl))) (pa_cons (pe_tup (pa_cons pe_int (pa_cons pe_int pa_nil (star1 rfl)) (star1 rfl))) (pa_cons (pe_tup (pa_cons pe_int (pa_cons pe_int pa_nil (star1 rfl)) (star1 rfl))) (pa_cons (pe_tup (pa_cons pe_int (pa_cons pe_int pa_nil (star1 rfl)) (star1 rfl))) pa_nil (star1 rfl)) (star1 rfl)) (star1 rfl)) (star1 rfl)) (star1 rfl)) (star1 rfl))))), ?_⟩
  refine s_retP ?_
  have sa : SA 6 _ (start N__law_sizes []) H := sa_cons 2 2 (by decide) (by decide) (by decide) (by decide) (sa_cons 3 2 (by decide) (by decide) (by decide) (by decide) (sa_cons 1 5 (by decide) (by decide) (by decide) (by decide) (sa_cons 6 1 (by decide) (by decide) (by decide) (by decide) (sa_cons 0 35 (by decide) (by decide) (by decide) (by decide) (sa_cons 0 2 (by decide) (by decide) (by decide) (by decide) sa_nil)))))
  refine sa H (Ex.refl H) _ fun vs H2 e2 hl hvs => ⟨sz_of (by omega), fun a ha => ?_⟩
  exact q a vs _ (e2.trans (Ex.new ha)) (fresh_back e2 ha) upd_same (by omega) (by omega) fun v hv => (hvs v hv).ex (Ex.new ha)
end

def isWhole : PyData → Bool
  | .int _ => true | _ => false
def wholeFrom (d : PyData) (k : Int) : Bool := match d with
  | .int i => decide (k ≤ i)
  | _ => false
/-! ### tuples, names -/
def tupOf (d : PyData) (k : Int) : Bool := match d with
  | .tuple ds => decide ((ds.length : Int) = k)
  | _ => false
def spTupOf (K : PySem.W.Frag) : Sp := fun vs H Q _ => ∃ v d k, vs = [v, .int k] ∧ Dx K H v d ∧ ∀ H', Ex H H' → Q (.bl (tupOf d k)) H'
def shortStr : PyData → Prop
  | .str s => s.length ≤ 1000000
  | _ => True
def lettersB (z : Str) : Bool := z.cps.toList.all fun c => decide (c ∈ ("abcdefghijklmnopqrstuvwxyz" : Str).cps.toList)
def spLetters (K : PySem.W.Frag) : Sp := fun vs H Q _ => ∃ z : Str, vs = [.str z] ∧ z.cps.size ≤ 40000 ∧ ∀ H', Ex H H' → Q (.bl (decide (1 ≤ z.length) && lettersB z)) H'
def spIsName (K : PySem.W.Frag) : Sp := fun vs H Q _ => ∃ v d, vs = [v] ∧ Dx K H v d ∧ shortStr d ∧ ∀ H', Ex H H' → Q (.bl (isNm d)) H'
section
theorem ev_lenS {z : Str} {i : Nat} {H2 : Hp} {σ' : L2.St} (hz : z.length ≤ 1000000) (hσ : σ'[i]? = some (some (.str z))) : Ev (tCB (fun xs H Q => ∃ x n, xs = [x] ∧ LenV K x H n ∧ Q (.int n) H) (tCons (tVar i) tNil)) σ' H2 (.int (z.length : Int)) := fun H3 e3 Q' q' => ⟨_, hσ, .str z, z.length, rfl, ⟨Nat.le_trans hz (by decide), rfl⟩, q' H3 (Ex.refl H3)⟩
end

/-! ### the law's own look at names -/
theorem alpha_mem (c : Nat) : c ∈ ("abcdefghijklmnopqrstuvwxyz" : Str).cps.toList ↔ 97 ≤ c ∧ c ≤ 122 := by
  have e : ("abcdefghijklmnopqrstuvwxyz" : Str).cps.toList = List.range' 97 26 := by decide +kernel
  rw [e, List.mem_range'_1]
  omega
theorem one_lt (a b : Nat) : decide ([a] < [b]) = decide (a < b) := by
  refine decide_eq_decide.mpr ?_
  rw [List.cons_lt_cons_iff]
  simp
abbrev rLeS : R2 := fun x y H Q => ∃ i j, x = V.str i ∧ y = V.str j ∧ Q (.bl (!decide (j.cps.toList < i.cps.toList))) H
theorem ev_chainS {σ : L2.St} {H : Hp} {ta tb tc : TE} {i j k : Str} (ha : Ev ta σ H (.str i)) (hb : Ev tb σ H (.str j)) (hc : Ev tc σ H (.str k)) : Ev (tChain rLeS rLeS ta tb tc) σ H (.bl (!decide (j.cps.toList < i.cps.toList) && !decide (k.cps.toList < j.cps.toList))) := by
  intro H1 e Q q
  refine ha H1 e _ fun H2 e2 => hb H2 (e.trans e2) _ fun H3 e3 => ⟨i, j, rfl, rfl, _, rfl, ?_⟩
  cases hf : (!decide (j.cps.toList < i.cps.toList)) with
  | true =>
    rw [if_pos rfl]
    refine hc H3 ((e.trans e2).trans e3) _ fun H4 e4 => ⟨j, k, rfl, rfl, ?_⟩
    have h := q H4 ((e2.trans e3).trans e4)
    rw [hf, Bool.true_and] at h
    exact h
  | false =>
    rw [if_neg (by decide)]
    have h := q H3 (e2.trans e3)
    rw [hf, Bool.false_and] at h
    exact h
section
variable {P : Program} {w : World} {K : PySem.W.Frag} {mg : Str → Option Value} {base : Heap}
theorem ok__law_is_name (T : Tp w K mg) : FnOk P w K mg base CX0 1 T.f__law_is_name T.d__law_is_name ["_law_thing"] (spIsName K) := by
  refine T.F__law_is_name.ok sc__law_is_name (fun vs H Q E h => ?_) (fun cdv A outer s H vs Q E hr h => ?_)
  · obtain ⟨v, d, rfl, _⟩ := h
    rfl
  obtain ⟨v, d, rfl, hd, hsh, q⟩ := h
  refine ⟨_, (pss_one (ps_ret (pe_and (pe_callB (isiK (K := K) rfl) rfl T.z_isinstance (by decide +kernel) (pa_cons (pv 0) (pa_cons (pe_bltn (v := .ty "str") rfl T.z_str (by decide +kernel) rfl) pa_nil (star1 rfl)) (star1 rfl)) (by decide) (by decide) (star1 rfl) (starAll rfl)) (pe_and (pe_chain op_lt op_lt pe_int (pe_callB call_len rfl T.z_len PySem.boot_len (pa_cons (pv 0) pa_nil (star1 rfl)) (by decide) (by decide) (star1 rfl) (starAll rfl)) pe_int) (pe_one (pe_callB (allK (K := K) rfl rfl) rfl T.z_all (by decide +kernel) (pa_cons (pe_lc (own := [("_law_sign", 1)]) (g := gName 1) (tt := tYes) rfl sc__law_is_name.nd (pi_str (pv 0)) (blkOk_by (N := N__law_is_name) (sc := defScope s__law_is_name) (by decide +kernel)) (fun _ _ _ _ _ => (pg_name (i := 1) sc__law_is_name.nd rfl (Or.inl rfl))) (fun _ _ _ _ _ => pts_nil) (fun _ _ _ _ _ => (pe_chain op_le_str op_le_str pe_str (pv 1) pe_str))) pa_nil (star1 rfl)) (by decide) (by decide) (star1 rfl) (starAll rfl))))))), ?_⟩
  refine s_ret (ev_is (ev_andV (b := isNm d) (ev_isX (ev_var rfl) hd (kt_str d)) fun ht => ?_) (by cases d <;> first | rfl | (simp [isStrB, isNm]))) q
  cases hd with
  | str z =>
    have hz : z.length ≤ 1000000 := hsh
    have lenE : Ev (tCB (fun xs H Q => ∃ x n, xs = [x] ∧ LenV K x H n ∧ Q (.int n) H) (tCons (tVar 0) tNil)) (start N__law_is_name [.str z]) H (.int (z.length : Int)) := fun H3 e3 Q' q' => ⟨_, rfl, .str z, z.length, rfl, ⟨Nat.le_trans hz (by decide), rfl⟩, q' H3 (Ex.refl H3)⟩
    refine ev_is (ev_andV (b := z.cps.toList.all fun c => decide (c ∈ ("abcdefghijklmnopqrstuvwxyz" : Str).cps.toList)) (ev_chain2 ev_c lenE ev_c) fun hl => ?_) ?_
    · have hz8 : z.cps.size ≤ 40000 := by
        simp only [Bool.and_eq_true, decide_eq_true_eq] at hl
        have : z.length ≤ 8 := by omega
        exact Nat.le_trans this (by decide)
      refine ev_is (ev_allN (bs := (List.range z.cps.size).map fun i => decide (97 ≤ z.cps.getD i 0) && decide (z.cps.getD i 0 ≤ 122)) ?_) ?_
      · have c := el_lcS (σ := start N__law_is_name [.str z]) (H := H) (z := z) (tl := tVar 0) (te := tChain rLeS rLeS (tC (.str "a")) (tVar 1) (tC (.str "z"))) (j := 1) (vs := [1]) (fun i => .bl (decide (97 ≤ z.cps.getD i 0) && decide (z.cps.getD i 0 ≤ 122))) (ev_var rfl) hz8 (fun x => rfl) (fun i c H3 e3 hi => ?_)
        · rw [List.map_map]
          exact c
        · have e : z.cps.getD i 0 = c := by simp [Array.getD_eq_getD_getElem?, hi]
          rw [e]
          refine ev_is (ev_chainS ev_c (ev_var rfl) ev_c) ?_
          have ea : ("a" : Str).cps.toList = [97] := by decide +kernel
          have ez : ("z" : Str).cps.toList = [122] := by decide +kernel
          rw [ea, ez]
          show V.bl (!decide ([c] < [97]) && !decide ([122] < [c])) = _
          rw [one_lt, one_lt]
          congr 1
          rw [Bool.eq_iff_iff]
          simp
      · congr 1
        rw [List.all_map]
        rw [Bool.eq_iff_iff, List.all_eq_true, List.all_eq_true]
        constructor
        · intro h c hc
          obtain ⟨i, hi, e⟩ := List.getElem_of_mem hc
          have hi2 : i < z.cps.size := by simpa using hi
          have := h i (List.mem_range.mpr hi2)
          simp only [Function.comp, id, Bool.and_eq_true, decide_eq_true_eq] at this
          have e2 : z.cps.getD i 0 = c := by
            rw [← e]
            simp [Array.getD_eq_getD_getElem?, hi2]
          rw [e2] at this
          exact decide_eq_true ((alpha_mem c).mpr this)
        · intro h i hi
          have hi2 := List.mem_range.mp hi
          simp only [Function.comp, id, Bool.and_eq_true, decide_eq_true_eq]
          have e2 : z.cps.getD i 0 = z.cps[i] := by simp [Array.getD_eq_getD_getElem?, hi2]
          rw [e2]
          exact (alpha_mem _).mp (of_decide_eq_true (h _ (by simp)))
    · simp only [isNm, nameB]
      congr 1
      congr 1
      rw [Bool.eq_iff_iff]
      simp only [Bool.and_eq_true, decide_eq_true_eq]
      omega
  | _ => cases ht
end

/-! ### all names of a plan -/
theorem ev_eqT0 {K : PySem.W.Frag} {σ : L2.St} {H : Hp} {ta : TE} {a : Addr} {xs : List V} {f : Bool → Bool} (ha : Ev ta σ H (.ref a)) (hs : SqT K H a xs) : Ev (tOp (rEqT0 K f) ta (tTup tNil)) σ H (.bl (f xs.isEmpty)) := fun H1 e Q q =>
  ha H1 e _ fun H2 e2 => ⟨(by show 0 ≤ sizeLine; decide), fun p hp => ⟨a, p, xs, rfl, rfl, ex_t ((e.trans e2).trans (Ex.new hp)) hs, st_of upd_same, q _ (e2.trans (Ex.new hp))⟩⟩
def spLAll (K : PySem.W.Frag) (n : Nat) : Sp := fun vs H Q _ => ∃ v d, vs = [v] ∧ Dx K H v d ∧ shorts d ∧ d.depth ≤ n ∧ nodes d ≤ 4000 ∧ (∀ H', Ex H H' → allG d = none → Q .non H') ∧ ∀ p ns H', Ex H H' → H p = none → H' p = some (.lst (ns.map V.str)) → allG d = some ns → Q (.ref p) H'
section
variable {P : Program} {w : World} {K : PySem.W.Frag} {mg : Str → Option Value} {base : Heap}
theorem la_step (T : Tp w K mg) {n : Nat} {spR : Sp} (ih : FnOk P w K mg base CX0 (n + 1) T.f__law_all T.d__law_all ["_law_thing"] spR) (hR : ∀ k, n = k + 1 → spR = spLAll K k) : FnOk P w K mg base CX0 (n + 2) T.f__law_all T.d__law_all ["_law_thing"] (spLAll K n) := by
  refine T.F__law_all.ok sc__law_all (fun vs H Q E h => ?_) (fun cdv A outer s H vs Q E hr h => ?_)
  · obtain ⟨v, d, rfl, _⟩ := h
    rfl
  obtain ⟨v, d, rfl, hd, hsh, hdp, hnd, q0, q1⟩ := h
  refine ⟨_, (pss_cons (ps_if (PW.pt (pw_or (pt_not (pt_val (pe_callB (isiK (K := K) rfl) rfl T.z_isinstance (by decide +kernel) (pa_cons (pv 0) (pa_cons (pe_bltn (v := .ty "tuple") rfl T.z_tuple (by decide +kernel) rfl) pa_nil (star1 rfl)) (star1 rfl)) (by decide) (by decide) (star1 rfl) (starAll rfl)))) (pw_or (pt_cmpR op_ne (pe_callB (lenK (K := K) rfl) rfl T.z_len PySem.boot_len (pa_cons (pv 0) pa_nil (star1 rfl)) (by decide) (by decide) (star1 rfl) (starAll rfl)) pe_int (nomark _)) (pw_or1 (pt_not (pt_val (pe_call (ok__law_is_name T) (hr.mono (by omega)) rfl T.m__law_is_name T.F__law_is_name.kp (b__law_is_name T) .nil pass0 (pa_cons (pe_ix (ixTK (K := K) rfl) (pv 0) pe_int (fun _ _ => rfl)) pa_nil (star1 rfl)) (by decide) (star1 rfl) (starAll rfl)))))))) (pss_one (ps_ret pe_non)) pss_nil)
  (pss_cons (ps_if (PW.pt (pw_or (pt_not (pt_val (pe_callB (isiK (K := K) rfl) rfl T.z_isinstance (by decide +kernel) (pa_cons (pe_ix (ixTK (K := K) rfl) (pv 0) pe_int (fun _ _ => rfl)) (pa_cons (pe_bltn (v := .ty "int") rfl T.z_int (by decide +kernel) rfl) pa_nil (star1 rfl)) (star1 rfl)) (by decide) (by decide) (star1 rfl) (starAll rfl)))) (pw_or (pt_val (pe_callB (isiK (K := K) rfl) rfl T.z_isinstance (by decide +kernel) (pa_cons (pe_ix (ixTK (K := K) rfl) (pv 0) pe_int (fun _ _ => rfl)) (pa_cons (pe_bltn (v := .ty "bool") rfl T.z_bool (by decide +kernel) rfl) pa_nil (star1 rfl)) (star1 rfl)) (by decide) (by decide) (star1 rfl) (starAll rfl))) (pw_or1 (pt_cmpR op_lt (pe_ix (ixTK (K := K) rfl) (pv 0) pe_int (fun _ _ => rfl)) pe_int (nomark _)))))) (pss_one (ps_ret pe_non)) pss_nil)
  (pss_cons (ps_if (PW.pt (pw_or (pt_not (pt_val (pe_callB (isiK (K := K) rfl) rfl T.z_isinstance (by decide +kernel) (pa_cons (pe_ix (ixTK (K := K) rfl) (pv 0) pe_int (fun _ _ => rfl)) (pa_cons (pe_bltn (v := .ty "tuple") rfl T.z_tuple (by decide +kernel) rfl) pa_nil (star1 rfl)) (star1 rfl)) (by decide) (by decide) (star1 rfl) (starAll rfl)))) (pw_or1 (pt_cmpR (eqT0K (K := K) rfl (hu_e hr)) (pe_ix (ixTK (K := K) rfl) (pv 0) pe_int (fun _ _ => rfl)) (pe_tup pa_nil) (nomark _))))) (pss_one (ps_ret pe_non)) pss_nil)
  (pss_cons (ps_set (i := 1) sc__law_all.nd rfl (Or.inl rfl) (pe_lst (pa_cons (pe_ix (ixTK (K := K) rfl) (pv 0) pe_int (fun _ _ => rfl)) pa_nil (star1 rfl))))
  (pss_cons (ps_for PassesOwn.never rfl (pi_tup (pe_ix (ixTK (K := K) rfl) (pv 0) pe_int (fun _ _ => rfl))) (pg_name (i := 2) sc__law_all.nd rfl (Or.inl rfl)) (pss_cons (ps_set (i := 3) sc__law_all.nd rfl (Or.inl rfl) (pe_ifExp (pt_val (pe_call (ok__law_is_name T) (hr.mono (by omega)) rfl T.m__law_is_name T.F__law_is_name.kp (b__law_is_name T) .nil pass0 (pa_cons (pv 2) pa_nil (star1 rfl)) (by decide) (star1 rfl) (starAll rfl))) (pe_lst (pa_cons (pv 2) pa_nil (star1 rfl))) (pe_call ih hr rfl T.m__law_all T.F__law_all.kp (b__law_all T) .nil pass0 (pa_cons (pv 2) pa_nil (star1 rfl)) (by decide) (star1 rfl) (starAll rfl))))
  (pss_cons (ps_if (pt_cmp (pc_isN (pv 3))) (pss_one (ps_ret pe_non)) pss_nil)
  (pss_one (ps_set (i := 1) sc__law_all.nd rfl (Or.inl rfl) (pe_op op_cat (pv 1) (pv 3)))))))
  (pss_one (ps_ret (pv 1)))))))), ?_⟩
  have no : ∀ {D : Ends} {σ : L2.St} {H' : Hp}, D.rt = Q → Ex H H' → allG d = none → tRet (tC .non) D σ H' := fun hD e h => s_ret ev_c fun H2 e2 => by rw [hD]; exact q0 H2 (e.trans e2) h
  have form : ∀ (dn db dm : PyData), d = .tuple [dn, db, dm] → (isNm dn = false ∨ (∀ b, db = .int b → b < 1) ∨ (∀ ms, dm = .tuple ms → ms = [])) → allG d = none := fun dn db dm e h => by
    subst e
    simp only [allG]
    unfold allM
    split
    · rename_i s e2
      cases e2
    · rename_i n b ms e2
      cases e2
      rw [if_neg]
      rintro ⟨h1, h2, h3⟩
      rcases h with h | h | h
      · simp only [isNm] at h
        rw [h] at h3
        cases h3
      · have := h b rfl
        omega
      · exact h2 (h ms rfl)
    · rfl
  by_cases h3 : ∃ ds, d = .tuple ds ∧ ds.length = 3
  · obtain ⟨ds, rfl, hl⟩ := h3
    obtain ⟨dn, db, dm, rfl⟩ : ∃ a b c, ds = [a, b, c] := by
      match ds, hl with
      | [a, b, c], _ => exact ⟨a, b, c, rfl⟩
    cases hd with
    | tup hs ha =>
    rename_i a xs
    obtain ⟨x, y, z, rfl, h1, h2, h3⟩ := dxa3 ha
    simp only [shorts, shortss] at hsh
    have hdm : dm.depth + 1 ≤ n := by
      simp only [PyData.depth, PyData.depthAll] at hdp
      omega
    have nmT : ∀ {H1 : Hp} {σ' : L2.St}, Ex H H1 → σ'[0]? = some (some (.ref a)) → EvT (tNot (tB (tCall (spIsName K) [] E0 (tCons (tOp (rIxT K) (tVar 0) (tC (.int 0))) tNil)))) σ' H1 (!isNm dn) := fun e hσ => et_not (et_B (ev_call (ea_cons (ev_ixT (v := x) (ev_var hσ) ev_c (ex_t e hs) rfl) ea_nil) fun H2 e2 Q' q' E => ⟨x, dn, rfl, dx_mono (e.trans e2) h1, by cases dn <;> first | trivial | exact hsh.1, q'⟩))
    refine q_when (b := !isNm dn) (et_is (et_or (b := !isNm dn) (a := false) (et_is (et_not (et_B (ev_isX (ev_var rfl) (Dx.tup hs ha) (kt_tuple _)))) rfl) fun _ => et_is (et_or (a := false) (b := !isNm dn) (et_is (et_test (ev_ne (ev_lenT (ev_var rfl) hs) ev_c rfl)) rfl) fun _ => nmT (Ex.refl H) rfl) (Bool.false_or _)) (Bool.false_or _)) (fun hb H1 e1 => ?_) (fun hb H1 e1 => ?_)
    · exact no rfl e1 (form _ _ _ rfl (Or.inl (by simpa using hb)))
    have hnm : isNm dn = true := by simpa using hb
    obtain ⟨nm, rfl, hnb⟩ : ∃ nm, dn = .str nm ∧ nameB nm = true := by
      cases dn with
      | str nm => exact ⟨nm, rfl, hnm⟩
      | _ => cases hnm
    cases h1
    have ix1 : ∀ {H1 : Hp} {σ' : L2.St}, Ex H H1 → σ'[0]? = some (some (.ref a)) → Ev (tOp (rIxT K) (tVar 0) (tC (.int 1))) σ' H1 y := fun e hσ => ev_ixT (v := y) (ev_var hσ) ev_c (ex_t e hs) rfl
    have ix2 : ∀ {H1 : Hp} {σ' : L2.St}, Ex H H1 → σ'[0]? = some (some (.ref a)) → Ev (tOp (rIxT K) (tVar 0) (tC (.int 2))) σ' H1 z := fun e hσ => ev_ixT (v := z) (ev_var hσ) ev_c (ex_t e hs) rfl
    refine q_when (b := !wholeFrom db 1) (et_is (et_or (b := !wholeFrom db 1) (et_not (et_B (ev_isX (ix1 e1 rfl) (dx_mono e1 h2) (kt_int db)))) fun hi => et_is (et_or (b := !wholeFrom db 1) (et_B (ev_isX (ix1 e1 rfl) (dx_mono e1 h2) (kt_bool db))) fun hbo => ?_) ?_) ?_) (fun hb2 H2 e2 => ?_) (fun hb2 H2 e2 => ?_)
    · cases h2 with
      | int i =>
        refine et_is (et_test (ev_I0 (ix1 e1 rfl) ev_c)) ?_
        simp only [wholeFrom]
        rw [Bool.eq_iff_iff]
        simp
      | bl b => cases hbo
      | _ => cases hi
    · cases db <;> simp [isBoolB, wholeFrom]
    · cases db <;> simp [isIntB, wholeFrom]
    · refine no rfl (e1.trans e2) (form _ _ _ rfl (Or.inr (Or.inl fun b hbb => ?_)))
      subst hbb
      simp only [wholeFrom, Bool.not_eq_true', decide_eq_false_iff_not] at hb2
      omega
    obtain ⟨b, rfl, hb1⟩ : ∃ b, db = .int b ∧ 1 ≤ b := by
      cases db with
      | int b => exact ⟨b, rfl, by simpa [wholeFrom] using hb2⟩
      | _ => cases hb2
    have e12 := e1.trans e2
    by_cases ht : ∃ ms, dm = .tuple ms ∧ ms ≠ []
    · obtain ⟨ms, rfl, hms⟩ := ht
      cases h3 with
      | tup hs3 ha3 =>
      rename_i ma mxs
      have hmx : mxs.length = ms.length := dxa_len ha3
      have hne : mxs.isEmpty = false := by
        cases mxs with
        | nil => simp at hmx; exact absurd hmx.symm (by simpa using hms)
        | cons _ _ => rfl
      refine q_when (b := false) (et_is (et_or (a := false) (b := false) (et_is (et_not (et_B (ev_isX (ix2 e12 rfl) (dx_mono e12 (Dx.tup hs3 ha3)) (kt_tuple _)))) rfl) fun _ => et_is (et_test (ev_eqT0 (ix2 e12 rfl) (ex_t e12 hs3))) (by rw [hne]; rfl)) rfl) (fun hb => by cases hb) (fun _ H3 e3 => ?_)
      have e13 := e12.trans e3
      obtain ⟨k, rfl⟩ : ∃ k, n = k + 1 := ⟨n - 1, by omega⟩
      have eR := hR k rfl
      subst eR
      have allE : allG (.tuple [.str nm, .int b, .tuple ms]) = match allMs ms with | none => none | some r => some (nm :: r) := by
        simp only [allG]
        unfold allM
        rw [if_pos ⟨hb1, hms, hnb⟩]
        all_goals (cases allMs ms <;> rfl)
      have hnod : nodess ms + 4 ≤ 4000 := by simp only [nodes, nodess] at hnd; omega
      simp only [shorts] at hsh
      refine q_asgP ?_
      refine (el_lst (ea_cons (ev_ixT (v := .str nm) (ev_var rfl) ev_c (ex_t e13 hs) rfl) ea_nil) (by simp)) H3 (Ex.refl H3) _ fun p H4 hp4 e4 h4 => ?_
      have e14 := e13.trans e4
      refine q_forT (K := K) (a := ma) (xs := mxs) (ix2 e14 rfl) (ex_t e14 hs3) (fun i σ' H' => Ex H H' ∧ ∃ r f c d', H f = none ∧ H' f = some (.lst ((nm :: r).map V.str)) ∧ allMs (ms.take i) = some r ∧ σ' = [some (.ref a), some (.ref f), c, d']) ?_ ?_ ?_ ?_
      · intro H5 e5
        exact ⟨e14.trans e5, [], p, none, none, fresh_back e13 hp4, e5 _ _ h4, by simp [allMs], rfl⟩
      · intro i σ' H' _ hP
        exact ex_t hP.1 hs3
      · intro i u σ' H5 hu hP
        obtain ⟨e5, r, f, c, d', hf0, hf, hr', rfl⟩ := hP
        obtain ⟨du, hdu, dxu⟩ := dxa_get ha3 hu
        have shu := shortss_mem hsh.2.2.1 hdu
        have hln : r.length ≤ nodess ms := Nat.le_trans (alls_len _ _ hr') (nodess_le ms i)
        have hnu : nodes du ≤ nodess ms := by
          have h1 := nodess_take hdu
          have h2 := nodess_le ms (i + 1)
          omega
        have hstep := alls_take hdu hr'
        refine q_asgP ?_
        refine (et_B (ev_call (ea_cons (ev_var rfl) ea_nil) fun H6 e6 Q' q' E => ⟨u, du, rfl, dx_mono (e5.trans e6) dxu, by cases du <;> first | trivial | exact shu, q'⟩)) H5 (Ex.refl H5) _ fun H6 e6 => ?_
        refine ite2 (fun hb => ?_) (fun hb => ?_)
        · obtain ⟨s, rfl, hsb⟩ : ∃ s, du = .str s ∧ nameB s = true := by
            cases du with
            | str s => exact ⟨s, rfl, hb⟩
            | _ => cases hb
          cases dxu
          obtain ⟨ns, hns⟩ : ∃ ns, ns = [s] := ⟨_, rfl⟩
          have hall : allM (.str s) = some ns := by
            unfold allM
            rw [if_pos hsb, hns]
          have hnl : ns.length ≤ nodess ms := by
            rw [hns]
            simpa [nodes] using hnu
          refine (el_lst (ea_cons (ev_var rfl) ea_nil) (by simp)) H6 (Ex.refl H6) _ fun g H7 hg7 e7 h7 => ?_
          have e56 := e6.trans e7
          have h7 : H7 g = some (.lst (ns.map V.str)) := by rw [hns]; exact h7
          refine q_when (b := false) (et_is (et_B (ev_isN (ev_var rfl))) rfl) (fun hb => by cases hb) (fun _ H8 e8 => ?_)
          refine s_asgP ?_
          refine ⟨_, rfl, _, rfl, f, g, _, _, rfl, rfl, (e56.trans e8) _ _ hf, e8 _ _ h7, sz_of (by simp only [List.length_map, List.length_cons, List.length_nil]; omega), fun p hp => ?_⟩
          refine ⟨((e5.trans e56).trans e8).trans (Ex.new hp), r ++ ns, p, _, _, fresh_back ((e5.trans e56).trans e8) hp, by rw [upd_same]; simp, by rw [hstep, hall], rfl⟩
        · have hna : allM du = allG du := all_not (by simpa using hb)
          refine ⟨_, rfl, u, du, rfl, dx_mono (e5.trans e6) dxu, shu, ?_, by omega, fun H7 e7 h7 => ?_, fun g ns H7 e7 hg0 h7 hall => ?_⟩
          · have := depth_mem hdu
            simp only [PyData.depth] at hdm
            omega
          · refine q_when (b := true) (et_is (et_B (ev_isN (ev_var rfl))) rfl) (fun _ H8 e8 => ?_) (fun hb => by cases hb)
            refine no rfl (((e5.trans e6).trans e7).trans e8) ?_
            rw [allE, alls_stop (i := i + 1) (by rw [hstep, hna, h7])]
          rw [← hna] at hall
          have hnl : ns.length ≤ nodess ms := Nat.le_trans (all_len _ _ hall) hnu
          have e56 := e6.trans e7
          refine q_when (b := false) (et_is (et_B (ev_isN (ev_var rfl))) rfl) (fun hb => by cases hb) (fun _ H8 e8 => ?_)
          refine s_asgP ?_
          refine ⟨_, rfl, _, rfl, f, g, _, _, rfl, rfl, (e56.trans e8) _ _ hf, e8 _ _ h7, sz_of (by simp only [List.length_map, List.length_cons, List.length_nil]; omega), fun p hp => ?_⟩
          refine ⟨((e5.trans e56).trans e8).trans (Ex.new hp), r ++ ns, p, _, _, fresh_back ((e5.trans e56).trans e8) hp, by rw [upd_same]; simp, by rw [hstep, hall], rfl⟩
      · intro σ' H5 hP
        obtain ⟨e5, r, f, c, d', hf0, hf, hr', rfl⟩ := hP
        rw [hmx, List.take_length] at hr'
        rw [hr'] at allE
        exact s_ret (ev_var rfl) fun H6 e6 => q1 f (nm :: r) H6 (e5.trans e6) hf0 (e6 _ _ hf) allE
    · refine q_when (b := true) (et_is (et_or (b := true) (et_not (et_B (ev_isX (ix2 e12 rfl) (dx_mono e12 h3) (kt_tuple dm)))) fun hi => ?_) (Bool.or_true _)) (fun _ H3 e3 => ?_) (fun hb => by cases hb)
      · cases h3 with
        | tup hs3 ha3 =>
          rename_i ma mxs ms
          have hms : ms = [] := Classical.byContradiction fun z => ht ⟨ms, rfl, z⟩
          subst hms
          cases ha3
          exact et_is (et_test (ev_eqT0 (ix2 e12 rfl) (ex_t e12 hs3))) rfl
        | _ => cases hi
      · exact no rfl (e12.trans e3) (form _ _ _ rfl (Or.inr (Or.inr fun ms hm => Classical.byContradiction fun z => ht ⟨ms, hm, z⟩)))
  · have hn : allG d = none := by
      cases d with
      | tuple ds =>
        simp only [allG]
        unfold allM
        split
        · rename_i s e2; cases e2
        · rename_i n b ms e2
          cases e2
          exact absurd ⟨_, rfl, rfl⟩ h3
        · rfl
      | _ => rfl
    refine q_when (b := true) (et_is (et_or (b := true) (et_not (et_B (ev_isX (ev_var rfl) hd (kt_tuple d)))) fun hi => ?_) (Bool.or_true _)) (fun _ H1 e1 => no rfl e1 hn) (fun hb => by cases hb)
    cases hd with
    | tup hs ha =>
      rename_i a xs ds
      have hl := dxa_len ha
      refine et_is (et_or (a := true) (b := false) (et_is (et_test (ev_ne (ev_lenT (ev_var rfl) hs) ev_c rfl)) ?_) fun z => by cases z) rfl
      simp only [Bool.not_eq_true', decide_eq_false_iff_not]
      intro z
      have := V.int.inj z
      exact h3 ⟨ds, rfl, by omega⟩
    | _ => cases hi
theorem la_all (T : Tp w K mg) : ∀ n, FnOk P w K mg base CX0 (n + 2) T.f__law_all T.d__law_all ["_law_thing"] (spLAll K n)
  | 0 => la_step T (spR := fun _ _ _ _ => False) ⟨fun _ _ _ _ h => h.elim, fun _ _ _ _ _ _ _ _ _ _ _ _ _ h => h.elim⟩ (fun k h => by cases h)
  | n + 1 => la_step T (la_all T n) (fun k h => by cases h; rfl)
theorem ok__law_all (T : Tp w K mg) : FnOk P w K mg base CX0 32 T.f__law_all T.d__law_all ["_law_thing"] (spLAll K 30) := la_all T 30
end

/-! ### a thing of any kind -/
section
variable {K : PySem.W.Frag} {h l : Addr} {σ : L2.St} {H : Hp} {te tb : TE} {ta : TA} {W N D B n : Nat}
theorem gc_non (hW : 10 ≤ W) (hN : 1 ≤ N) : EG K h l W N D B (tC .non) σ H := eg_c fun H => (G.non).up hW hN (Nat.zero_le _) (Nat.le_refl _)
theorem gc_bl {b : Bool} (hW : 10 ≤ W) (hN : 1 ≤ N) : EG K h l W N D B (tC (.bl b)) σ H := eg_c fun H => (G.bl b).up hW hN (Nat.zero_le _) (Nat.le_refl _)
theorem gk_int {i : Int} (e : EK h l (.int i) te σ H) (hi : i.natAbs ≤ B) (hW : 60 ≤ W) (hN : 1 ≤ N) : EG K h l W N D B te σ H := eg_ek e fun H => (G.int hi).up hW hN (Nat.zero_le _) (Nat.le_refl _)
theorem gc_int {i : Int} (hi : i.natAbs ≤ B) (hW : 60 ≤ W) (hN : 1 ≤ N) : EG K h l W N D B (tC (.int i)) σ H := gk_int ek_c hi hW hN
theorem gc_lit {s : String} (ha : (s.toList.all fun c => decide (c.toNat < 128)) = true) (hl : s.length ≤ 50) (hW : 600 ≤ W) (hN : 1 ≤ N) : EG K h l W N D B (tC (.str (Str.ofString s))) σ H := eg_c fun H => (G.str (n := 600) (by rw [PySem.ofString_length]; omega) (asc_lit ha)).up hW hN (Nat.zero_le _) (Nat.le_refl _)
theorem ek_neg {i : Int} (e : EK h l (.int i) te σ H) : EK h l (.int (-i)) (tUn (rU fun i => .int (-i)) te) σ H := fun H1 k A Q q => e H1 k A _ fun H2 k2 A2 => ⟨i, rfl, q H2 k2 A2⟩
theorem ek_I {C : Int → Int → Prop} {g : Int → Int → V} {i j : Int} (hc : C i j) (ha : EK h l (.int i) te σ H) (hb : EK h l (.int j) tb σ H) : EK h l (g i j) (tOp (rI C g) te tb) σ H := fun H1 k A Q q =>
  ha H1 k A _ fun H2 k2 A2 => hb H2 (k.trans k2) A2 _ fun H3 k3 A3 => ⟨i, j, rfl, rfl, hc, q H3 (k2.trans k3) A3⟩
theorem ek_add {i j : Int} (ha : EK h l (.int i) te σ H) (hb : EK h l (.int j) tb σ H) : EK h l (.int (i + j)) (tOp (rI0 fun i j => .int (i + j)) te tb) σ H := ek_I0 (g := fun i j => .int (i + j)) ha hb
theorem ek_sub {i j : Int} (ha : EK h l (.int i) te σ H) (hb : EK h l (.int j) tb σ H) : EK h l (.int (i - j)) (tOp (rI0 fun i j => .int (i - j)) te tb) σ H := ek_I0 (g := fun i j => .int (i - j)) ha hb
theorem ek_pow8 : EK h l (.int 100000000) (tOp (rI CPow fun i j => .int (i ^ j.toNat)) (tC (.int 10)) (tC (.int 8))) σ H := fun H1 k A Q q => by
  have e : ((10 : Int) ^ (8 : Int).toNat) = 100000000 := by decide
  refine ⟨10, 8, rfl, rfl, ⟨by decide, by decide, by decide⟩, ?_⟩
  show Q (.int ((10 : Int) ^ (8 : Int).toNat)) H1
  rw [e]
  exact q H1 (Kp.refl h l H1) A
theorem ek_addW {x : V} {i j : Int} (hx : numV x = some i) (ha : EK h l x te σ H) (hb : EK h l (.int j) tb σ H) : EK h l (.int (i + j)) (tOp rAddW te tb) σ H := fun H1 k A Q q =>
  ha H1 k A _ fun H2 k2 A2 => hb H2 (k.trans k2) A2 _ fun H3 k3 A3 => ⟨i, j, hx, rfl, q H3 (k2.trans k3) A3⟩
theorem ek_subW {x : V} {i j : Int} (hx : numV x = some i) (ha : EK h l x te σ H) (hb : EK h l (.int j) tb σ H) : EK h l (.int (i - j)) (tOp rSubW te tb) σ H := fun H1 k A Q q =>
  ha H1 k A _ fun H2 k2 A2 => hb H2 (k.trans k2) A2 _ fun H3 k3 A3 => ⟨i, j, Or.inl ⟨hx, rfl⟩, q H3 (k2.trans k3) A3⟩
theorem ek_subW2 {y : V} {i j : Int} (hy : numV y = some j) (ha : EK h l (.int i) te σ H) (hb : EK h l y tb σ H) : EK h l (.int (i - j)) (tOp rSubW te tb) σ H := fun H1 k A Q q =>
  ha H1 k A _ fun H2 k2 A2 => hb H2 (k.trans k2) A2 _ fun H3 k3 A3 => ⟨i, j, Or.inr ⟨rfl, hy⟩, q H3 (k2.trans k3) A3⟩
theorem eg_of (g : NG K h l n W N D B te σ H) (hσ : σ[0]? = some (some (.ref h))) (n1 : 1 ≤ n) (n2 : n ≤ 1000) : EG K h l W N D B (tCall spOf [] E0 (tCons (tVar 0) (tCons te tNil))) σ H := fun H1 k A Q q =>
  ⟨_, hσ, g H1 k A _ fun p vs H2 k2 A2 p1 p2 hp hl hv => of_list (E := E0) A2 hp p1 p2 (by omega) (by omega) fun v H3 hm A3 k3 => q v H3 (k2.trans k3) A3 (g_kp (hv v hm) k3)⟩
theorem eg_slS {z : Str} (ha : EK h l (.str z) te σ H) (hz : z.length ≤ 1000000) (az : asc z) (hW : 10 * z.length + 10 ≤ W) (hN : 1 ≤ N) : EG K h l W N D B (tSl rSlS te (tPart (tC (.int 1))) tNoPart) σ H := fun H1 k A Q q =>
  ha H1 k A _ fun H2 k2 A2 => ⟨1, rfl, z, rfl, Nat.le_trans hz (by decide), q _ H2 k2 A2 (by
    have hl := cutS_length z (some 1) none
    refine (G.str (n := 10 * z.length + 10) (by omega) fun c hc => az c ?_).up hW hN (Nat.zero_le _) (Nat.le_refl _)
    have hc : c ∈ ((z.cps.toList.drop (HT.sIx z.length 0 (some 1))).take (HT.sIx z.length z.length none - HT.sIx z.length 0 (some 1))).toArray.toList := hc
    rw [List.toList_toArray] at hc
    exact List.mem_of_mem_drop (List.mem_of_mem_take hc))⟩
theorem eg_upper {z : Str} (ha : EK h l (.str z) te σ H) (hz : z.length ≤ 1000000) (az : asc z) (hW : 30 * z.length + 10 ≤ W) (hN : 1 ≤ N) : EG K h l W N D B (tM0 (fun x xs H Q => ∃ a, x = .str a ∧ xs = [] ∧ a.length ≤ 5592405 ∧ Q (.str (Txt.upper a)) H) te) σ H := fun H1 k A Q q =>
  ha H1 k A _ fun H2 k2 A2 => ⟨⟨z, rfl⟩, z, rfl, rfl, by omega, q _ H2 k2 A2 (by
    have hl := PyProof.Rows.len_upper z
    exact (G.str (n := 30 * z.length + 10) (by omega) (asc_upper az)).up hW hN (Nat.zero_le _) (Nat.le_refl _))⟩
theorem eg_strY {i : Nat} {v : V} {d : PyData} {C : Nat} (hσ : σ[i]? = some (some v)) (hd : Dy K (aside H [h, l]) v d) (hs : ∀ z, d ≠ .str z) (hC : C < 2 ^ 44) (ok : okD C d) (hw : wt d ≤ 10000000) (hdp : d.depth ≤ 64) (A0 : Hand H h l) (y : Sy K H) (hW : 10 * wt d ≤ W) (hN : 1 ≤ N) : EG K h l W N D B (tCB (rStrY K) (tCons (tVar i) tNil)) σ H := fun H1 k A Q q =>
  ⟨v, hσ, v, d, rfl, dy_mono ((aside_kp (by simp) (by simp) k).trans (aside_sub _ _)) hd, hs, shows_of hC ok (Nat.le_refl _) (Nat.le_refl _) (by omega) hdp, y.kp A0 k, q _ H1 (Kp.refl h l H1) A (by
    obtain ⟨_, t2, t3⟩ := text_facts hC d ok
    exact (G.str (n := 10 * wt d) (by omega) t3).up hW hN (Nat.zero_le _) (Nat.le_refl _))⟩
theorem eg_t1 (g : EG K h l W N D B te σ H) {W' N' D' : Nat} (hW : W + 10 ≤ W') (hN : N + 1 ≤ N') (hD : D + 1 ≤ D') : EG K h l W' N' D' B (tTup (tCons te tNil)) σ H := (eg_tg (tg_new (ag_cons g ag_nil) (by decide))).up (by omega) (by omega) hD (Nat.le_refl _)
theorem eg_l1 (g : EG K h l W N D B te σ H) {W' N' D' : Nat} (hW : W + 10 ≤ W') (hN : N + 1 ≤ N') (hD : D + 1 ≤ D') : EG K h l W' N' D' B (tLst (tCons te tNil)) σ H := (eg_lst (ag_cons g ag_nil) (by decide)).up (by omega) (by omega) hD (Nat.le_refl _)
theorem eg_t0 (hW : 10 ≤ W) (hN : 1 ≤ N) (hD : 1 ≤ D) : EG K h l W N D B (tTup tNil) σ H := (eg_tg (tg_new (ag_nil (W := 0) (N := 0) (D := 0)) (by decide))).up (by omega) (by omega) (by omega) (Nat.le_refl _)
theorem eg_d (hW : 10 ≤ W) (hN : 1 ≤ N) (hD : 1 ≤ D) : EG K h l W N D B tDNewK σ H := (eg_dnew).up hW hN hD (Nat.le_refl _)
end
section
variable {K : PySem.W.Frag} {h l : Addr} {σ : L2.St} {H : Hp} {t1 t2 t3 : TE} {W1 W2 W3 N1 N2 N3 W N D B : Nat}
theorem eg_two (g1 : EG K h l W1 N1 D B t1 σ H) (g2 : EG K h l W2 N2 D B t2 σ H) (hW : W1 + W2 + 10 ≤ W) (hN : N1 + N2 + 1 ≤ N) : EG K h l W N (D + 1) B (tTup (tCons t1 (tCons t2 tNil))) σ H := fun H1 k A Q q =>
  g1 H1 k A _ fun v1 H2 k2 A2 a1 => g2 H2 (k.trans k2) A2 _ fun v2 H3 k3 A3 a2 => ⟨(by show 2 ≤ sizeLine; decide), fun p hp => by
    obtain ⟨n1, n2⟩ := A3.fresh hp
    have s : SqT K (aside (upd H3 p (.tup [v1, v2])) [h, l]) p [v1, v2] := st_of (by rw [aside_at (off_hl n1 n2)]; exact upd_same)
    exact q (.ref p) _ ((k2.trans k3).trans (new_kp hp)) (A3.new hp) ((G.tup s (GL.cons (g_kp (g_kp a1 k3) (new_kp hp)) (GL.cons (g_kp a2 (new_kp hp)) (GL.nil (W := 0) (N := 0))))).up (by omega) (by omega) (Nat.le_refl _) (Nat.le_refl _))⟩
theorem eg_three (g1 : EG K h l W1 N1 D B t1 σ H) (g2 : EG K h l W2 N2 D B t2 σ H) (g3 : EG K h l W3 N3 D B t3 σ H) (hW : W1 + W2 + W3 + 10 ≤ W) (hN : N1 + N2 + N3 + 1 ≤ N) : EG K h l W N (D + 1) B (tTup (tCons t1 (tCons t2 (tCons t3 tNil)))) σ H := fun H1 k A Q q =>
  g1 H1 k A _ fun v1 H2 k2 A2 a1 => g2 H2 (k.trans k2) A2 _ fun v2 H3 k3 A3 a2 => g3 H3 ((k.trans k2).trans k3) A3 _ fun v3 H4 k4 A4 a3 => ⟨(by show 3 ≤ sizeLine; decide), fun p hp => by
    obtain ⟨n1, n2⟩ := A4.fresh hp
    have s : SqT K (aside (upd H4 p (.tup [v1, v2, v3])) [h, l]) p [v1, v2, v3] := st_of (by rw [aside_at (off_hl n1 n2)]; exact upd_same)
    exact q (.ref p) _ (((k2.trans k3).trans k4).trans (new_kp hp)) (A4.new hp) ((G.tup s (GL.cons (g_kp (g_kp a1 (k3.trans k4)) (new_kp hp)) (GL.cons (g_kp (g_kp a2 k4) (new_kp hp)) (GL.cons (g_kp a3 (new_kp hp)) (GL.nil (W := 0) (N := 0)))))).up (by omega) (by omega) (Nat.le_refl _) (Nat.le_refl _))⟩
theorem eg_dc1 {i : Nat} {v : V} (e : σ[i]? = some (some v)) (g : G K (aside H [h, l]) v W1 N1 D B) (hW : W1 + 30 ≤ W) (hN : N1 + 1 ≤ N) : EG K h l W N (D + 1) B (tDisp [(tC (.str (Str.ofString "a")), tVar i)]) σ H := fun H1 k A Q q p hp => by
  obtain ⟨n1, n2⟩ := A.fresh hp
  have e2 : Ex H1 (upd (upd H1 p (.dK [])) p (.dK (mergeK [] [(Sum.inr (Str.ofString "a"), v)]))) := Ex.mut (Ex.new hp) hp
  have el : (Str.ofString "a").length = 1 := by decide +kernel
  refine ⟨v, e, upd_same, [(Sum.inr (Str.ofString "a"), v)], rfl, (by show 1 ≤ 15; decide), q (.ref p) _ (Kp.ex e2) (A.ex e2) ?_⟩
  refine (G.dc1 (z := Str.ofString "a") (v := v) (W := W1) (N := N1) (D := D) ?_ (asc_lit (by decide)) (g_kp (g_kp g k) (Kp.ex e2))).up (by omega) (by omega) (Nat.le_refl _) (Nat.le_refl _)
  rw [aside_at (off_hl n1 n2), upd_same]
  rfl
end

/-! ### refusals made by hand -/
def XcL (H : Hp) (xs : List V) (cs : List Addr) : Prop := xs.length = cs.length ∧ ∀ i v, xs[i]? = some v → ∃ a d, v = .ref a ∧ XcAt H a (cs.getD i 0) d
theorem XcL.nil {H : Hp} : XcL H [] [] := ⟨rfl, fun i v h => by simp at h⟩
theorem XcL.ex {H H' : Hp} {xs : List V} {cs : List Addr} (x : XcL H xs cs) (e : Ex H H') : XcL H' xs cs := ⟨x.1, fun i v h => by
  obtain ⟨a, d, h1, h2⟩ := x.2 i v h
  exact ⟨a, d, h1, h2.ex e⟩⟩
theorem XcL.snoc {H : Hp} {xs : List V} {cs : List Addr} {a C : Addr} {d : Option Addr} (x : XcL H xs cs) (h : XcAt H a C d) : XcL H (xs ++ [.ref a]) (cs ++ [C]) := by
  refine ⟨by rw [List.length_append, List.length_append, x.1]; rfl, fun i v hv => ?_⟩
  by_cases hi : i < xs.length
  · rw [List.getElem?_append_left hi] at hv
    obtain ⟨a', d', h1, h2⟩ := x.2 i v hv
    have hi2 : i < cs.length := by rw [← x.1]; exact hi
    refine ⟨a', d', h1, ?_⟩
    rw [List.getD_eq_getElem?_getD, List.getElem?_append_left hi2, ← List.getD_eq_getElem?_getD]
    exact h2
  · rw [List.getElem?_append_right (by omega)] at hv
    have e : i - xs.length = 0 := by
      rcases Nat.eq_zero_or_pos (i - xs.length) with z | z
      · exact z
      · rw [List.getElem?_eq_none (by simp; omega)] at hv
        cases hv
    rw [e] at hv
    cases hv
    refine ⟨a, d, rfl, ?_⟩
    rw [List.getD_eq_getElem?_getD, List.getElem?_append_right (by rw [← x.1]; omega), ← x.1, e]
    exact h
theorem lst_in {ta : TA} {σ : L2.St} {H : Hp} {Q : VK} (h : ta σ H fun xs H1 => xs.length ≤ sizeLine ∧ ∀ p, H1 p = none → Q (.ref p) (upd H1 p (.lst xs))) : tLst ta σ H Q := h
theorem nil_in {σ : L2.St} {H : Hp} {Q : List V → Hp → Prop} (h : Q [] H) : tNil σ H Q := h
section
variable {K : PySem.W.Frag} {H : Hp} {xs : List V} {cs : List Addr} {C : Addr} {f : Str} {v : V} {tr : TA} {σ : L2.St} {Q : List V → Hp → Prop}
theorem xa_new (x : XcL H xs cs) (q : ∀ a H', Ex H H' → XcL H' (xs ++ [.ref a]) (cs ++ [C]) → tr σ H' fun vs H2 => Q (.ref a :: vs) H2) : tCons (tExc fun _ H Q => Q (.ref C) none H) tr σ H Q := fun a na =>
  q a _ (Ex.new na) ((x.ex (Ex.new na)).snoc (d := none) ⟨upd_same, fun _ z => nomatch z⟩)
theorem xa_newF {i : Nat} (e : σ[i]? = some (some v)) (c : OexC K C) (no : PySem.W.findIn K (.ref C) f = some none) (x : XcL H xs cs) (q : ∀ a d H', Ex H H' → XcL H' (xs ++ [.ref a]) (cs ++ [C]) → H' a = some (XcO (.ref C) (some d) a) → H' d = some (.xd [(f, v)]) → tr σ H' fun vs H2 => Q (.ref a :: vs) H2) :
    tCons (tExc (tMkO C (spXInit K f) [] (tCons (tVar i) tNil))) tr σ H Q := ⟨v, e, mkx (Q := fun cls d H' => ∀ a', H' a' = none → tr σ (upd H' a' (XcO cls d a')) fun vs H2 => Q (.ref a' :: vs) H2) c no fun d nd a' na => by
    have e1 := Ex.new (o := .xd [(f, v)]) nd
    have e2 := Ex.new (o := XcO (.ref C) (some d) a') na
    refine q a' d _ (e1.trans e2) ((x.ex (e1.trans e2)).snoc (d := some d) ⟨upd_same, fun dd z => ?_⟩) upd_same (e2 _ _ upd_same)
    cases z
    exact ⟨_, e2 _ _ upd_same⟩⟩
end
def spMade (K : PySem.W.Frag) : Sp := fun vs H Q _ => ∃ (h l : Addr), vs = [.ref h] ∧ Hand H h l ∧ Sy K H ∧ ∀ H', Hand H' h l → Kp h l H H' → Q (.bl true) H'
theorem pow9 {h l : Addr} {σ : L2.St} {H : Hp} : EK h l (.int 1000000000) (tOp (rI CPow fun i j => .int (i ^ j.toNat)) (tC (.int 10)) (tC (.int 9))) σ H := fun H1 k A Q q => by
  have e : ((10 : Int) ^ (9 : Int).toNat) = 1000000000 := by decide
  refine ⟨10, 9, rfl, rfl, ⟨by decide, by decide, by decide⟩, ?_⟩
  show Q (.int ((10 : Int) ^ (9 : Int).toNat)) H1
  rw [e]
  exact q H1 (Kp.refl h l H1) A
section
variable {P : Program} {w : World} {K : PySem.W.Frag} {mg : Str → Option Value} {base : Heap}
theorem ok__law_made_right (T : Tp w K mg) : FnG P w K mg base 3 T.f__law_made_right T.d__law_made_right ["_law_hand_here"] (spMade K) := by
  refine fun_g T.F__law_made_right sc__law_made_right (fun vs H Q E h => ?_) (fun cdv A outer s H vs Q E hG hr h => ?_)
  · obtain ⟨h, l, rfl, _⟩ := h
    rfl
  obtain ⟨h, l, rfl, A0, y0, q⟩ := h
  refine ⟨_, (pss_cons (ps_par rfl sc__law_made_right.nd (i := 1) (j := 2) rfl rfl (by decide) rfl rfl (pa_cons (pe_call (ok__law_of T) (hr.mono (by decide)) rfl T.m__law_of T.F__law_of.kp (b__law_of T) .nil pass0 (pa_cons (pv 0) (pa_cons (pe_lst (pa_cons pe_non (pa_cons pe_str (pa_cons (pe_tup (pa_cons pe_str pa_nil (star1 rfl))) (pa_cons (pe_lst (pa_cons pe_int pa_nil (star1 rfl))) (pa_cons pe_bl (pa_cons (pe_tup (pa_cons pe_str (pa_cons (pe_tup pa_nil) pa_nil (star1 rfl)) (star1 rfl))) pa_nil (star1 rfl)) (star1 rfl)) (star1 rfl)) (star1 rfl)) (star1 rfl)) (star1 rfl))) pa_nil (star1 rfl)) (star1 rfl)) (by decide) (star1 rfl) (starAll rfl)) (pa_cons (pe_call (ok__law_pick T) (hr.mono (by decide)) rfl T.m__law_pick T.F__law_pick.kp (b__law_pick T) .nil pass0 (pa_cons (pv 0) (pa_cons (pe_op op_pow pe_int pe_int) pa_nil (star1 rfl)) (star1 rfl)) (by decide) (star1 rfl) (starAll rfl)) pa_nil (star1 rfl)) (star1 rfl)) (by rfl))
  (pss_cons (ps_set (i := 3) sc__law_made_right.nd rfl (Or.inl rfl) (pe_lst (pa_cons (pe_ofMk (pmk_oex T.ox_NoName T.ii_NoName T.ti_NoName (ok_NoName___init__ T) (hr.mono (by decide)) (b_NoName___init__ T) .nil pass0 rfl T.mc_NoName (pa_cons (pv 1) pa_nil (star1 rfl)) (by decide) (star1 rfl) (starAll rfl))) (pa_cons (pe_ofMk (pmk_oex T.ox_NoText T.ii_NoText T.ti_NoText (ok_NoText___init__ T) (hr.mono (by decide)) (b_NoText___init__ T) .nil pass0 rfl T.mc_NoText (pa_cons (pv 2) pa_nil (star1 rfl)) (by decide) (star1 rfl) (starAll rfl))) (pa_cons (pe_ofMk (pmk_own0 PySem.F.excBase_ValueError T.xp_NoPlan T.mc_NoPlan T.xc_NoPlan.kC (raises_own T.xc_NoPlan.hs T.xc_NoPlan.tyC) rfl)) (pa_cons (pe_ofMk (pmk_own0 PySem.F.excBase_ValueError T.xp_NoBook T.mc_NoBook T.xc_NoBook.kC (raises_own T.xc_NoBook.hs T.xc_NoBook.tyC) rfl)) (pa_cons (pe_ofMk (pmk_own0 PySem.F.excBase_ValueError T.xp_NoScript T.mc_NoScript T.xc_NoScript.kC (raises_own T.xc_NoScript.hs T.xc_NoScript.tyC) rfl)) (pa_cons (pe_ofMk (pmk_own0 PySem.F.excBase_ValueError T.xp_NoBounds T.mc_NoBounds T.xc_NoBounds.kC (raises_own T.xc_NoBounds.hs T.xc_NoBounds.tyC) rfl)) (pa_cons (pe_ofMk (pmk_own0 PySem.F.excBase_ValueError T.xp_NotWaiting T.mc_NotWaiting T.xc_NotWaiting.kC (raises_own T.xc_NotWaiting.hs T.xc_NotWaiting.tyC) rfl)) (pa_cons (pe_ofMk (pmk_own0 PySem.F.excBase_ValueError T.xp_Uneven T.mc_Uneven T.xc_Uneven.kC (raises_own T.xc_Uneven.hs T.xc_Uneven.tyC) rfl)) (pa_cons (pe_ofMk (pmk_own0 PySem.F.excBase_ValueError T.xp_NoStep T.mc_NoStep T.xc_NoStep.kC (raises_own T.xc_NoStep.hs T.xc_NoStep.tyC) rfl)) pa_nil (star1 rfl)) (star1 rfl)) (star1 rfl)) (star1 rfl)) (star1 rfl)) (star1 rfl)) (star1 rfl)) (star1 rfl)) (star1 rfl))))
  (pss_cons (ps_set (i := 3) sc__law_made_right.nd rfl (Or.inl rfl) (pe_op op_cat (pv 3) (pe_lst (pa_cons (pe_ofMk (pmk_own0 PySem.F.excBase_ValueError T.xp_TooMany T.mc_TooMany T.xc_TooMany.kC (raises_own T.xc_TooMany.hs T.xc_TooMany.tyC) rfl)) (pa_cons (pe_ofMk (pmk_own0 PySem.F.excBase_ValueError T.xp_Endless T.mc_Endless T.xc_Endless.kC (raises_own T.xc_Endless.hs T.xc_Endless.tyC) rfl)) (pa_cons (pe_ofMk (pmk_own0 PySem.F.excBase_ValueError T.xp_NoLine T.mc_NoLine T.xc_NoLine.kC (raises_own T.xc_NoLine.hs T.xc_NoLine.tyC) rfl)) (pa_cons (pe_ofMk (pmk_own0 PySem.F.excBase_ValueError T.xp_NoHouse T.mc_NoHouse T.xc_NoHouse.kC (raises_own T.xc_NoHouse.hs T.xc_NoHouse.tyC) rfl)) pa_nil (star1 rfl)) (star1 rfl)) (star1 rfl)) (star1 rfl)))))
  (pss_cons (ps_if (pt_cmpR op_ne (pe_callB (reprYK (K := K) rfl hG (hu_r hr)) rfl T.z_repr (by decide +kernel) (pa_cons (pe_lst (pa_cons (pe_xk T.xc_NoName.xf T.na_NoName_name (pe_ix (ixLK (K := K) rfl) (pv 3) pe_int (fun _ _ => rfl)) rfl) (pa_cons (pe_xk T.xc_NoText.xf T.na_NoText_row (pe_ix (ixLK (K := K) rfl) (pv 3) pe_int (fun _ _ => rfl)) rfl) pa_nil (star1 rfl)) (star1 rfl))) pa_nil (star1 rfl)) (by decide) (by decide) (star1 rfl) (starAll rfl)) (pe_callB (reprYK (K := K) rfl hG (hu_r hr)) rfl T.z_repr (by decide +kernel) (pa_cons (pe_lst (pa_cons (pv 1) (pa_cons (pv 2) pa_nil (star1 rfl)) (star1 rfl))) pa_nil (star1 rfl)) (by decide) (by decide) (star1 rfl) (starAll rfl)) (nomark _)) (pss_one (ps_ret pe_bl)) pss_nil)
  (pss_one (ps_ret (pe_callB (allK (K := K) rfl rfl) rfl T.z_all (by decide +kernel) (pa_cons (pe_lc (own := [("_law_at", 4), ("_law_one", 5)]) (g := gTup K 2 (gCons (gName 4) (gCons (gName 5) gNil))) (tt := tYes) rfl sc__law_made_right.nd (pi_enum rfl T.z_enumerate (pa_cons (pv 3) pa_nil (star1 rfl))) (blkOk_by (N := N__law_made_right) (sc := defScope s__law_made_right) (by decide +kernel)) (fun _ _ _ _ _ => (pg_tup rfl (pgs_cons (pg_name (i := 4) sc__law_made_right.nd rfl (Or.inl rfl)) (pgs_cons (pg_name (i := 5) sc__law_made_right.nd rfl (Or.inl rfl)) pgs_nil)))) (fun _ _ _ _ _ => pts_nil) (fun _ _ _ _ _ => (pe_call (ok__law_is_alone T) (hr.mono (by decide)) rfl T.m__law_is_alone T.F__law_is_alone.kp (b__law_is_alone T) .nil pass0 (pa_cons (pv 5) (pa_cons (pv 4) pa_nil (star1 rfl)) (star1 rfl)) (by decide) (star1 rfl) (starAll rfl)))) pa_nil (star1 rfl)) (by decide) (by decide) (star1 rfl) (starAll rfl)))))))), ?_⟩
  have lit : ∀ {σ : L2.St} {H' : Hp} {D : Nat} {s : String}, (s.toList.all fun c => decide (c.toNat < 128)) = true → s.length ≤ 50 → EG K h l 600 1 D (2 ^ 31) (tC (.str (Str.ofString s))) σ H' := fun ha hl => gc_lit ha hl (Nat.le_refl _) (Nat.le_refl _)
  refine q_parP ?_
  refine eg_of (K := K) (h := h) (l := l) (n := 6) (W := 3000) (N := 10) (D := 3) (B := 2 ^ 31) (ng_lst (ag_cons (gc_non (by decide) (by decide)) (ag_cons (gc_lit (by decide) (by decide) (by decide) (by decide)) (ag_cons (eg_t1 (lit (D := 0) (by decide) (by decide)) (by decide) (by decide) (by decide)) (ag_cons (eg_l1 (W := 60) (N := 1) (D := 0) (gc_int (by decide) (by decide) (by decide)) (by decide) (by decide) (by decide)) (ag_cons (gc_bl (by decide) (by decide)) (ag_cons (eg_two (D := 2) (lit (by decide) (by decide)) (eg_t0 (W := 10) (N := 1) (by decide) (by decide) (by decide)) (by decide) (by decide)) ag_nil)))))) (by decide)) rfl (by decide) (by decide) H (Kp.refl h l H) A0 _ fun v H1 k1 A1 g1 => ?_
  refine ⟨_, rfl, pow9 H1 (Kp.refl h l H1) A1 _ fun H2 k2 A2 => ⟨h, l, 1000000000, rfl, A2, by decide, by decide, fun r H3 r0 r1 A3 k3 => ⟨v, .int r, rfl, ?_⟩⟩⟩
  have k03 := (k1.trans k2).trans k3
  obtain ⟨dv, dy, w1, w2, w3, w4⟩ := g_kp (g_kp g1 k2) k3
  have y3 := y0.kp A0 k03
  have dy3 : Dy K H3 v dv := dy_mono (aside_sub _ _) dy
  -- the thirteen
  refine q_asgP ?_
  refine lst_in ?_
  refine xa_newF rfl T.ox_NoName T.na_NoName_name XcL.nil fun a1 d1 H4 e4 x4 ha1 hd1 => ?_
  refine xa_newF rfl T.ox_NoText T.na_NoText_row x4 fun a2 d2 H5 e5 x5 ha2 hd2 => ?_
  refine xa_new x5 fun a3 H6 e6 x6 => xa_new x6 fun a4 H7 e7 x7 => xa_new x7 fun a5 H8 e8 x8 => xa_new x8 fun a6 H9 e9 x9 => xa_new x9 fun a7 H10 e10 x10 => xa_new x10 fun a8 H11 e11 x11 => xa_new x11 fun a9 H12 e12 x12 => nil_in ?_
  refine ⟨(by show 9 ≤ sizeLine; decide), fun p1 hp1 => ?_⟩
  have e13 := Ex.new (o := .lst [.ref a1, .ref a2, .ref a3, .ref a4, .ref a5, .ref a6, .ref a7, .ref a8, .ref a9]) hp1
  have hp13 : (upd H12 p1 (.lst [.ref a1, .ref a2, .ref a3, .ref a4, .ref a5, .ref a6, .ref a7, .ref a8, .ref a9])) p1 = some (.lst [.ref a1, .ref a2, .ref a3, .ref a4, .ref a5, .ref a6, .ref a7, .ref a8, .ref a9]) := upd_same
  generalize upd H12 p1 (.lst [.ref a1, .ref a2, .ref a3, .ref a4, .ref a5, .ref a6, .ref a7, .ref a8, .ref a9]) = H13 at e13 hp13 ⊢
  refine q_asgP ?_
  refine ⟨.ref p1, rfl, ?_⟩
  refine lst_in ?_
  refine xa_new (x12.ex e13) fun b1 H14 e14 x14 => xa_new x14 fun b2 H15 e15 x15 => xa_new x15 fun b3 H16 e16 x16 => xa_new x16 fun b4 H17 e17 x17 => nil_in ?_
  refine ⟨(by show 4 ≤ sizeLine; decide), fun p2 hp2 => ?_⟩
  have e18 := Ex.new (o := .lst [.ref b1, .ref b2, .ref b3, .ref b4]) hp2
  have e1317 : Ex H13 H17 := ((e14.trans e15).trans e16).trans e17
  refine ⟨p1, p2, _, _, rfl, rfl, e18 _ _ (e1317 _ _ hp13), upd_same, (by show 13 ≤ sizeLine; decide), fun p3 hp3 => ?_⟩
  have e19 := Ex.new (o := .lst ([.ref a1, .ref a2, .ref a3, .ref a4, .ref a5, .ref a6, .ref a7, .ref a8, .ref a9] ++ [.ref b1, .ref b2, .ref b3, .ref b4])) hp3
  have hp19 : (upd (upd H17 p2 (.lst [.ref b1, .ref b2, .ref b3, .ref b4])) p3 (.lst ([.ref a1, .ref a2, .ref a3, .ref a4, .ref a5, .ref a6, .ref a7, .ref a8, .ref a9] ++ [.ref b1, .ref b2, .ref b3, .ref b4]))) p3 = some (.lst ([.ref a1, .ref a2, .ref a3, .ref a4, .ref a5, .ref a6, .ref a7, .ref a8, .ref a9] ++ [.ref b1, .ref b2, .ref b3, .ref b4])) := upd_same
  have x19 := x17.ex (e18.trans e19)
  have e319 : Ex H3 _ := ((((((((((e4.trans e5).trans e6).trans e7).trans e8).trans e9).trans e10).trans e11).trans e12).trans e13).trans e1317).trans (e18.trans e19)
  have ha1' := (((((((((e5.trans e6).trans e7).trans e8).trans e9).trans e10).trans e11).trans e12).trans e13).trans e1317).trans (e18.trans e19) _ _ ha1
  have hd1' := (((((((((e5.trans e6).trans e7).trans e8).trans e9).trans e10).trans e11).trans e12).trans e13).trans e1317).trans (e18.trans e19) _ _ hd1
  have ha2' := ((((((((e6.trans e7).trans e8).trans e9).trans e10).trans e11).trans e12).trans e13).trans e1317).trans (e18.trans e19) _ _ ha2
  have hd2' := ((((((((e6.trans e7).trans e8).trans e9).trans e10).trans e11).trans e12).trans e13).trans e1317).trans (e18.trans e19) _ _ hd2
  generalize upd (upd H17 p2 (.lst [.ref b1, .ref b2, .ref b3, .ref b4])) p3 (.lst ([.ref a1, .ref a2, .ref a3, .ref a4, .ref a5, .ref a6, .ref a7, .ref a8, .ref a9] ++ [.ref b1, .ref b2, .ref b3, .ref b4])) = H19 at hp19 x19 e319 ha1' hd1' ha2' hd2' ⊢
  have x19' : XcL H19 ([.ref a1, .ref a2, .ref a3, .ref a4, .ref a5, .ref a6, .ref a7, .ref a8, .ref a9] ++ [.ref b1, .ref b2, .ref b3, .ref b4]) T.cs := x19
  have A19 := A3.ex e319
  have y19 := y3.ex e319
  have dy19 := dy_mono e319 dy3
  -- what they keep
  have fld1 : ∀ {H' : Hp} {σ : L2.St}, Ex H19 H' → σ[3]? = some (some (.ref p3)) → Ev (tXk T.C_NoName "name" (tOp (rIxL K) (tVar 3) (tC (.int 0)))) σ H' v := fun {H' σ} e hσ H1 e1 Q' q' => ⟨.ref p3, hσ, p3, _, 0, .ref a1, rfl, rfl, sq_of ((e.trans e1) _ _ hp19), rfl, a1, d1, _, v, rfl, (e.trans e1) _ _ ha1', (e.trans e1) _ _ hd1', by simp [List.lookup], q' H1 (Ex.refl H1)⟩
  have fld2 : ∀ {H' : Hp} {σ : L2.St}, Ex H19 H' → σ[3]? = some (some (.ref p3)) → Ev (tXk T.C_NoText "row" (tOp (rIxL K) (tVar 3) (tC (.int 1)))) σ H' (.int r) := fun {H' σ} e hσ H1 e1 Q' q' => ⟨.ref p3, hσ, p3, _, 1, .ref a2, rfl, rfl, sq_of ((e.trans e1) _ _ hp19), rfl, a2, d2, _, .int r, rfl, (e.trans e1) _ _ ha2', (e.trans e1) _ _ hd2', by simp [List.lookup], q' H1 (Ex.refl H1)⟩
  have two : showsY (.list [dv, .int r]) := shows_of (B := 2 ^ 31) (W := 4000) (D := 10) (by decide) (by simp only [okD, okDs]; exact ⟨w4, by omega, trivial⟩) (by simp only [wt, wts]; omega) (by simp only [PyData.depth, PyData.depthAll]; omega) (by decide) (by decide)
  have rp : ∀ {ta : TE} {σ : L2.St} {H' : Hp}, Ex H19 H' → EvL ta σ H' [v, .int r] → Ev (tCB (rReprY K) (tCons ta tNil)) σ H' (.str (PyData.list [dv, .int r]).shown) := fun e ha H1 e1 Q' q' => ha H1 e1 _ fun p H2 hp e2 h2 => ⟨.ref p, _, rfl, .lst h2 (.cons (dy_mono ((e.trans e1).trans e2) dy19) (.cons (.int r) .nil)), two, y19.ex ((e.trans e1).trans e2), q' H2 e2⟩
  refine q_when (b := false) (et_is (et_test (ev_ne (rp (Ex.refl H19) (el_lst (ea_cons (fld1 (Ex.refl H19) rfl) (ea_cons (fld2 (Ex.refl H19) rfl) ea_nil)) (by simp))) (rp (Ex.refl H19) (el_lst (ea_cons (ev_var rfl) (ea_cons (ev_var rfl) ea_nil)) (by simp))) rfl)) (by rw [decide_eq_true rfl]; rfl)) (fun hb => by cases hb) (fun _ H20 e20 => ?_)
  -- each of its own class alone
  refine s_retP ?_
  have hp20 := e20 _ _ hp19
  have x20 := x19'.ex e20
  refine ⟨_, rfl, p3, _, rfl, sq_of hp20, fun Dl hD => ?_⟩
  refine lc_it (walk_enum (K := K) (a := p3) (xs := [.ref a1, .ref a2, .ref a3, .ref a4, .ref a5, .ref a6, .ref a7, .ref a8, .ref a9] ++ [.ref b1, .ref b2, .ref b3, .ref b4])) (fun i H' => Ex H20 H' ∧ H' Dl = some (.lst (List.replicate i (V.bl true)))) ⟨Ex.new hD, upd_same⟩ (fun i H' _ hP => sq_of (hP.1 _ _ hp20)) ?_ ?_
  · intro i x H' H'' hi hP hY
    obtain ⟨e21, hacc⟩ := hP
    obtain ⟨t, y1, y2, rfl, ht, rfl, hy1, hy2⟩ := hY
    cases hy1
    obtain ⟨a, d, rfl, xa⟩ := x20.2 i y2 hy2
    have hi13 : i < 13 := hi
    have e22 := Ex.new (o := .tup [.int (i : Int), .ref a]) ht
    refine ⟨t, _, rfl, st_of upd_same, rfl, _, _, rfl, _, _, rfl, rfl, rfl, tYesQ ?_⟩
    refine ⟨_, rfl, _, rfl, a, i, i, d, rfl, hi13, hi13, xa.ex (e21.trans e22), fun H3 e3 => ⟨_, e3 _ _ (e22 _ _ hacc), sz_lt (by rw [List.length_replicate]; omega), ?_, ?_⟩⟩
    · exact Ex.mut ((e21.trans e22).trans e3) hD
    · rw [upd_same, decide_eq_true rfl, List.replicate_succ']
  · intro H' hP
    obtain ⟨e21, hacc⟩ := hP
    exact ⟨Dl, List.replicate 13 true, rfl, sq_of hacc, q H' (A19.ex (e20.trans e21)) (k03.trans (Kp.ex ((e319.trans e20).trans e21)))⟩
end

/-! ### near a name, or of any kind -/
def spNear (K : PySem.W.Frag) : Sp := fun vs H Q _ => ∃ (h l na : Addr) (ns : List Str), vs = [.ref h, .ref na] ∧ Hand H h l ∧ na ≠ h ∧ na ≠ l ∧ H na = some (.lst (ns.map V.str)) ∧ 1 ≤ ns.length ∧ ns.length ≤ 1000 ∧ (∀ x ∈ ns, nameOk x) ∧ ∀ v H', Hand H' h l → Kp h l H H' → G K (aside H' [h, l]) v 9000 60 20 (2 ^ 27) → Q v H'
section
variable {P : Program} {w : World} {K : PySem.W.Frag} {mg : Str → Option Value} {base : Heap}
theorem ok__law_near (T : Tp w K mg) : FnOk P w K mg base CX0 3 T.f__law_near T.d__law_near ["_law_hand_here", "_law_names_here"] (spNear K) := by
  refine T.F__law_near.ok sc__law_near (fun vs H Q E h => ?_) (fun cdv A outer s H vs Q E hr h => ?_)
  · obtain ⟨h, l, na, ns, rfl, _⟩ := h
    rfl
  obtain ⟨h, l, na, ns, rfl, A0, n1, n2, hna, l1, l2, hns, q⟩ := h
  refine ⟨_, (pss_cons (ps_set (i := 2) sc__law_near.nd rfl (Or.inl rfl) (pe_call (ok__law_of T) (hr.mono (by decide)) rfl T.m__law_of T.F__law_of.kp (b__law_of T) .nil pass0 (pa_cons (pv 0) (pa_cons (pv 1) pa_nil (star1 rfl)) (star1 rfl)) (by decide) (star1 rfl) (starAll rfl)))
  (pss_cons (ps_set (i := 3) sc__law_near.nd rfl (Or.inl rfl) (pe_lst (pa_cons (pe_op op_add_str (pv 2) pe_str) (pa_cons (pe_slice sl_str (pv 2) (po_some pe_int) po_none) (pa_cons (pe_revS (pv 2)) (pa_cons (pe_upper (pv 2)) (pa_cons (pe_op op_add_str pe_str (pv 2)) (pa_cons (pe_op op_add_str (pv 2) pe_str) (pa_cons pe_str (pa_cons pe_str (pa_cons pe_str (pa_cons (pe_tup (pa_cons (pv 2) pa_nil (star1 rfl))) (pa_cons (pe_lst (pa_cons (pv 2) pa_nil (star1 rfl))) pa_nil (star1 rfl)) (star1 rfl)) (star1 rfl)) (star1 rfl)) (star1 rfl)) (star1 rfl)) (star1 rfl)) (star1 rfl)) (star1 rfl)) (star1 rfl)) (star1 rfl))))
  (pss_cons (ps_set (i := 4) sc__law_near.nd rfl (Or.inl rfl) (pe_call (ok__law_of T) (hr.mono (by decide)) rfl T.m__law_of T.F__law_of.kp (b__law_of T) .nil pass0 (pa_cons (pv 0) (pa_cons (pe_op op_cat (pv 3) (pe_lst (pa_cons pe_non (pa_cons pe_bl (pa_cons pe_int (pa_cons pe_dnewK (pa_cons (pe_tup pa_nil) (pa_cons (pe_op op_add_str (pv 2) (pv 2)) pa_nil (star1 rfl)) (star1 rfl)) (star1 rfl)) (star1 rfl)) (star1 rfl)) (star1 rfl)))) pa_nil (star1 rfl)) (star1 rfl)) (by decide) (star1 rfl) (starAll rfl)))
  (pss_cons (ps_for PassesOwn.never rfl (pi_range1 rfl T.z_range (pa_cons (pe_call (ok__law_of T) (hr.mono (by decide)) rfl T.m__law_of T.F__law_of.kp (b__law_of T) .nil pass0 (pa_cons (pv 0) (pa_cons (pe_lst (pa_cons pe_int (pa_cons pe_int (pa_cons pe_int (pa_cons pe_int (pa_cons pe_int pa_nil (star1 rfl)) (star1 rfl)) (star1 rfl)) (star1 rfl)) (star1 rfl))) pa_nil (star1 rfl)) (star1 rfl)) (by decide) (star1 rfl) (starAll rfl)) pa_nil (star1 rfl))) (pg_name (i := 5) sc__law_near.nd rfl (Or.inl rfl)) (pss_one (ps_set (i := 4) sc__law_near.nd rfl (Or.inl rfl) (pe_call (ok__law_of T) (hr.mono (by decide)) rfl T.m__law_of T.F__law_of.kp (b__law_of T) .nil pass0 (pa_cons (pv 0) (pa_cons (pe_lst (pa_cons (pe_tup (pa_cons (pv 4) pa_nil (star1 rfl))) (pa_cons (pe_lst (pa_cons (pv 4) pa_nil (star1 rfl))) (pa_cons (pe_disp (pps_cons pe_str (pv 4) pps_nil) (by rfl) (by rfl) (fun z => by cases z) (by decide)) (pa_cons (pe_tup (pa_cons (pv 4) (pa_cons pe_int pa_nil (star1 rfl)) (star1 rfl))) pa_nil (star1 rfl)) (star1 rfl)) (star1 rfl)) (star1 rfl))) pa_nil (star1 rfl)) (star1 rfl)) (by decide) (star1 rfl) (starAll rfl)))))
  (pss_one (ps_ret (pv 4))))))), ?_⟩
  refine q_asgP ?_
  refine ⟨_, rfl, _, rfl, of_list (E := E0) A0 hna n1 n2 (by rw [List.length_map]; exact l1) (by rw [List.length_map]; exact l2) fun v H1 hv A1 k1 => ?_⟩
  obtain ⟨x, hx, rfl⟩ := List.mem_map.mp hv
  have xn := hns x hx
  have x1 := xn.1
  have x2 := xn.2.1
  have xa : asc x := fun c hc => by
    have := xn.2.2 c hc
    omega
  have lit : ∀ {σ : L2.St} {H' : Hp} {D : Nat} {s : String}, (s.toList.all fun c => decide (c.toNat < 128)) = true → s.length ≤ 50 → EG K h l 700 4 D (2 ^ 27) (tC (.str (Str.ofString s))) σ H' := fun ha hl => gc_lit ha hl (by decide) (by decide)
  have gx : ∀ {H' : Hp}, G K H' (.str x) 100 1 0 (2 ^ 27) := (G.str (n := 100) (by omega) xa)
  have vx : ∀ {σ : L2.St} {H' : Hp} {D : Nat}, σ[2]? = some (some (.str x)) → EG K h l 100 1 D (2 ^ 27) (tVar 2) σ H' := fun e => (eg_var e gx).up (Nat.le_refl _) (Nat.le_refl _) (Nat.zero_le _) (Nat.le_refl _)
  have c1 : ∀ {s : String} {σ : L2.St} {H' : Hp}, (s.toList.all fun c => decide (c.toNat < 128)) = true → s.length ≤ 50 → σ[2]? = some (some (.str x)) → EG K h l 700 4 2 (2 ^ 27) (tOp (fun x y H Q => ∃ i j, x = V.str i ∧ y = V.str j ∧ i.length + j.length ≤ sizeLine ∧ Q (.str (i ++ j)) H) (tVar 2) (tC (.str (Str.ofString s)))) σ H' := fun {s σ H'} ha hl e => (eg_cats (W := 700) (ek_var e) ek_c (by rw [PySem.ofString_length]; omega) xa (asc_lit ha) (by rw [PySem.ofString_length]; omega)).up (Nat.le_refl _) (by decide) (by decide) (Nat.le_refl _)
  have c2 : ∀ {s : String} {σ : L2.St} {H' : Hp}, (s.toList.all fun c => decide (c.toNat < 128)) = true → s.length ≤ 50 → σ[2]? = some (some (.str x)) → EG K h l 700 4 2 (2 ^ 27) (tOp (fun x y H Q => ∃ i j, x = V.str i ∧ y = V.str j ∧ i.length + j.length ≤ sizeLine ∧ Q (.str (i ++ j)) H) (tC (.str (Str.ofString s))) (tVar 2)) σ H' := fun {s σ H'} ha hl e => (eg_cats (W := 700) ek_c (ek_var e) (by rw [PySem.ofString_length]; omega) (asc_lit ha) xa (by rw [PySem.ofString_length]; omega)).up (Nat.le_refl _) (by decide) (by decide) (Nat.le_refl _)
  refine q_asgP ?_
  refine ng_lst (K := K) (h := h) (l := l) (n := 11) (W := 700) (N := 4) (D := 2) (B := 2 ^ 27) (ag_cons (c1 (by decide) (by decide) rfl) (ag_cons (eg_slS (ek_var rfl) (by omega) xa (by omega) (by decide)) (ag_cons (eg_revS (ek_var rfl) (by omega) xa (by omega) (by decide)) (ag_cons (eg_upper (ek_var rfl) (by omega) xa (by omega) (by decide)) (ag_cons (c2 (by decide) (by decide) rfl) (ag_cons (c1 (by decide) (by decide) rfl) (ag_cons (lit (by decide) (by decide)) (ag_cons (lit (by decide) (by decide)) (ag_cons (lit (by decide) (by decide)) (ag_cons (eg_t1 (D := 0) (vx rfl) (by decide) (by decide) (by decide)) (ag_cons (eg_l1 (D := 0) (vx rfl) (by decide) (by decide) (by decide)) ag_nil))))))))))) (by decide) H1 (Kp.refl h l H1) A1 _ fun sp svs H2 k2 A2 sp1 sp2 hsp hsl hsv => ?_
  refine q_asgP ?_
  refine eg_of (K := K) (h := h) (l := l) (n := 11 + 6) (W := 700) (N := 4) (D := 2) (B := 2 ^ 27) (ng_cat (ng_var rfl sp1 sp2 hsp hsl hsv) (ng_lst (ag_cons (gc_non (by decide) (by decide)) (ag_cons (gc_bl (by decide) (by decide)) (ag_cons (gc_int (by decide) (by decide) (by decide)) (ag_cons (eg_d (by decide) (by decide) (by decide)) (ag_cons (eg_t0 (by decide) (by decide) (by decide)) (ag_cons ((eg_cats (W := 700) (ek_var (v := .str x) rfl) (ek_var (v := .str x) rfl) (by omega) xa xa (by omega)).up (Nat.le_refl _) (by decide) (by decide) (Nat.le_refl _)) ag_nil)))))) (by decide)) (by decide)) rfl (by decide) (by decide) H2 (Kp.refl h l H2) A2 _ fun v0 H3 k3 A3 g3 => ?_
  refine q_forU ?_
  refine ⟨_, rfl, (by show 5 ≤ sizeLine; decide), fun p hp => ?_⟩
  obtain ⟨m1, m2⟩ := A3.fresh hp
  refine of_list (E := E0) (A3.new hp) upd_same m1 m2 (by decide) (by decide) fun m H4 hm A4 k4 => ?_
  obtain ⟨n, rfl, hn⟩ : ∃ n : Nat, m = .int (n : Int) ∧ n ≤ 13 := by
    simp only [List.mem_cons, List.not_mem_nil, or_false] at hm
    rcases hm with h | h | h | h | h
    · exact ⟨0, h, by decide⟩
    · exact ⟨0, h, by decide⟩
    · exact ⟨0, h, by decide⟩
    · exact ⟨1, h, by decide⟩
    · exact ⟨13, h, by decide⟩
  refine ⟨(n : Int), rfl, by omega, by omega, ?_⟩
  have k04 : Kp h l H H4 := (((k1.trans k2).trans k3).trans (new_kp hp)).trans k4
  have g4 : G K (aside H4 [h, l]) v0 700 4 2 (2 ^ 27) := g_kp (g_kp g3 (new_kp hp)) k4
  refine rng_turns (n := (n : Int).toNat) (fun i σ' H' => Hand H' h l ∧ Kp h l H H' ∧ ∃ v c, G K (aside H' [h, l]) v (700 + 200 * i) (4 + 3 * i) (2 + i) (2 ^ 27) ∧ σ' = [some (.ref h), some (.ref na), some (.str x), some (.ref sp), some v, c]) ?_ ?_ ?_
  · exact ⟨A4, k04, v0, _, g4, rfl⟩
  · intro i σ' H5 hi hP
    obtain ⟨A5, k5, v, c, g5, rfl⟩ := hP
    refine s_asgP ?_
    have vr : ∀ {σ : L2.St}, σ[4]? = some (some v) → EG K h l (700 + 200 * i) (4 + 3 * i) (2 + i) (2 ^ 27) (tVar 4) σ H5 := fun hσ => eg_var hσ g5
    refine eg_of (K := K) (h := h) (l := l) (n := 4) (W := 700 + 200 * (i + 1)) (N := 4 + 3 * (i + 1)) (D := 2 + (i + 1)) (B := 2 ^ 27) (ng_lst (ag_cons (eg_t1 (vr rfl) (by omega) (by omega) (by omega)) (ag_cons (eg_l1 (vr rfl) (by omega) (by omega) (by omega)) (ag_cons (eg_dc1 (D := 2 + i) rfl g5 (W := 700 + 200 * (i + 1)) (N := 4 + 3 * (i + 1)) (by omega) (by omega)) (ag_cons (eg_two (W := 700 + 200 * (i + 1)) (N := 4 + 3 * (i + 1)) (D := 2 + i) (vr rfl) (gc_int (W := 60) (N := 1) (by decide) (by decide) (by decide)) (by omega) (by omega)) ag_nil)))) (by decide)) rfl (by decide) (by decide) H5 (Kp.refl h l H5) A5 _ fun v' H6 k6 A6 g6 => ?_
    exact ⟨A6, k5.trans k6, v', _, g6, rfl⟩
  · intro σ' H5 hP
    obtain ⟨A5, k5, v, c, g5, rfl⟩ := hP
    have hn2 : (n : Int).toNat ≤ 13 := by omega
    refine s_retP ?_
    exact ⟨v, rfl, q v H5 A5 k5 (g5.up (by omega) (by omega) (by omega) (Nat.le_refl _))⟩
end

/-! ### one thing asked -/
theorem q_seqM {t tz : TS} {D : Ends} {σ : L2.St} {H : Hp} (M : L2.St → Hp → Prop) (tail : ∀ σ' H', M σ' H' → tz D σ' H') (go : ∀ R : L2.St → Hp → Prop, (∀ σ' H', M σ' H' → R σ' H') → t { D with nx := R } σ H) : tSeq t tz D σ H := go (tz D) tail
def isIn (d : PyData) (ns : List Str) : Bool := match d with
  | .str z => decide (z ∈ ns)
  | _ => false
def spRight (K : PySem.W.Frag) : Sp := fun vs H Q _ => ∃ (v x : V) (na : Addr) (n : Str) (b : Int) (ms : List Tr) (d : PyData), vs = [v, .ref na, x] ∧ TrV H v (.grp n b ms) ∧ (Tr.grp n b ms).deep ≤ 12 ∧ (Tr.grp n b ms).size ≤ 1000 ∧ H na = some (.lst ((Tr.grp n b ms).nms.map V.str)) ∧ Dy K H x d ∧ showsY d ∧ Sy K H ∧ ∀ H', Ex H H' → Q (.bl true) H'
section
variable {P : Program} {w : World} {K : PySem.W.Frag} {mg : Str → Option Value} {base : Heap}
theorem ok__law_right (T : Tp w K mg) : FnG P w K mg base 15 T.f__law_right T.d__law_right ["_law_plan_here", "_law_names_here", "_law_thing"] (spRight K) := by
  refine fun_g T.F__law_right sc__law_right (fun vs H Q E h => ?_) (fun cdv A outer s H vs Q E hG hr h => ?_)
  · obtain ⟨v, x, na, n, b, ms, d, rfl, _⟩ := h
    rfl
  obtain ⟨v, x, na, n, b, ms, d, rfl, tv, hdp, hsz, hna, hd, sh, y0, q⟩ := h
  refine ⟨_, (pss_cons (ps_par rfl sc__law_right.nd (i := 3) (j := 4) rfl rfl (by decide) rfl rfl (pa_cons pe_non (pa_cons (pe_and (pe_callB (isiK (K := K) rfl) rfl T.z_isinstance (by decide +kernel) (pa_cons (pv 2) (pa_cons (pe_bltn (v := .ty "str") rfl T.z_str (by decide +kernel) rfl) pa_nil (star1 rfl)) (star1 rfl)) (by decide) (by decide) (star1 rfl) (starAll rfl)) (pe_one (pe_cmpR (inSK (K := K) rfl) (pv 2) (pv 1) (by with_unfolding_all rfl)))) pa_nil (star1 rfl)) (star1 rfl)) (by rfl))
  (pss_cons (ps_try_keep (i := 5) rfl rfl rfl sc__law_right.nd rfl rfl ⟨rfl, by decide, .inl T.mc_LockError⟩ takes0 (fun W pn xe tk _ => (pss_one (ps_expr (pe_callS (ok_path_of T) (hr.mono (by decide)) rfl T.m_path_of T.F_path_of.kp (b_path_of T) (fun σ => passAt tk σ) (pa_cons (pv 0) (pa_cons (pv 2) pa_nil (star1 rfl)) (star1 rfl)) (by decide) (star1 rfl) (starAll rfl))))) (fun a oe cls d pn hz hf => (pss_one (ps_set (i := 3) sc__law_right.nd rfl (Or.inl rfl) (pv 5)))))
  (pss_cons (ps_if (pt_val (pv 4)) (pss_one (ps_ret (pe_cmp (pc_isN (pv 3))))) pss_nil)
  (pss_one (ps_ret (pe_and (pe_call (ok__law_is_alone T) (hr.mono (by decide)) rfl T.m__law_is_alone T.F__law_is_alone.kp (b__law_is_alone T) .nil pass0 (pa_cons (pv 3) (pa_cons pe_int pa_nil (star1 rfl)) (star1 rfl)) (by decide) (star1 rfl) (starAll rfl)) (pe_one (pe_cmpR op_eq (pe_callB (reprYK (K := K) rfl hG (hu_r hr)) rfl T.z_repr (by decide +kernel) (pa_cons (pe_xk T.xc_NoName.xf T.na_NoName_name (pv 3) rfl) pa_nil (star1 rfl)) (by decide) (by decide) (star1 rfl) (starAll rfl)) (pe_callB (reprYK (K := K) rfl hG (hu_r hr)) rfl T.z_repr (by decide +kernel) (pa_cons (pv 2) pa_nil (star1 rfl)) (by decide) (by decide) (star1 rfl) (starAll rfl)) (nomark _))))))))), ?_⟩
  generalize hns : (Tr.grp n b ms).nms = ns at hna
  refine q_parP ?_
  have there : Ev (tAndV (tCB (rIsi K) (tCons (tVar 2) (tCons (tC (.ty "str")) tNil))) (tOp (rIn K false) (tVar 2) (tVar 1))) (start N__law_right [v, .ref na, x]) H (.bl (isIn d ns)) := by
    refine ev_is (ev_andV (a := isStrB d) (b := isIn d ns) (ev_isX (ev_var rfl) (dy_dx hd) (kt_str d)) fun hb => ?_) ?_
    · obtain ⟨z, rfl⟩ : ∃ z, d = .str z := by
        cases d <;> first | exact ⟨_, rfl⟩ | cases hb
      cases hd
      refine ev_is (ev_op (ev_var rfl) (ev_var rfl) (rv_isL (sq_of hna) rfl (NL.flat_strs ns))) ?_
      rw [in_strs]
      rfl
    · congr 1
      cases d <;> simp [isStrB, isIn]
  refine (ea_cons ev_c (ea_cons there ea_nil)) H (Ex.refl H) _ fun H1 e1 => ⟨.non, .bl (isIn d ns), rfl, ?_⟩
  refine q_seqM (fun σ' H' => Ex H H' ∧ ∃ c c5, σ' = [some v, some (.ref na), some x, some c, some (.bl (isIn d ns)), c5] ∧ (isIn d ns = true → c = .non) ∧ (isIn d ns = false → ∃ a dd, c = .ref a ∧ H' a = some (XcO (.ref T.C_NoName) (some dd) a) ∧ H' dd = some (.xd [("name", x)]))) ?tail ?go
  case go =>
    intro R hR
    refine ⟨v, rfl, x, rfl, v, x, n, b, ms, d, rfl, trv_tk (TK.ex e1) _ _ tv, hdp, hsz, dx_mono e1 (dy_dx hd), fun z ez hz u H2 e2 => ?_, fun hno dd H2 e2 nd hdd => ?_⟩
    · refine hR _ _ ⟨e1.trans e2, .non, _, rfl, fun _ => rfl, fun hf => ?_⟩
      subst ez
      rw [hns] at hz
      simp [isIn, hz] at hf
    · have hf : isIn d ns = false := by
        cases d <;> first | rfl | skip
        rename_i z
        have := hno z rfl
        rw [hns] at this
        simp [isIn, this]
      refine ⟨true, T.xc_LockError.exm (T.subL (i := 0) (by decide)), fun _ a na' => ?_, fun z => nomatch z⟩
      refine ⟨.ref a, rfl, hR _ _ ⟨(e1.trans e2).trans (Ex.new na'), .ref a, _, rfl, fun ht => (by rw [hf] at ht; cases ht), fun _ => ⟨a, dd, rfl, upd_same, Ex.new na' _ _ hdd⟩⟩⟩
  case tail =>
    intro σ' H2 hM
    obtain ⟨e2, c, c5, rfl, ht, hf⟩ := hM
    refine q_when (et_B (ev_var rfl)) (fun hb H3 e3 => ?_) (fun hb H3 e3 => ?_)
    · have hc := ht hb
      subst hc
      exact s_ret (ev_is (ev_isN (ev_var rfl)) (by rw [decide_eq_true rfl])) fun H4 e4 => q H4 ((e2.trans e3).trans e4)
    · obtain ⟨a, dd, rfl, ha, hdd⟩ := hf hb
      have x3 : XcAt H3 a T.C_NoName (some dd) := ⟨e3 _ _ ha, fun d' z => by cases z; exact ⟨_, e3 _ _ hdd⟩⟩
      have e03 := e2.trans e3
      refine s_ret (ev_is (ev_andV (a := true) (b := true) (ev_is (ev_call (ea_cons (ev_var rfl) (ea_cons ev_c ea_nil)) fun H4 e4 Q' q' E' => ⟨a, 0, 0, some dd, rfl, by decide, by decide, x3.ex e4, q'⟩) (by rw [decide_eq_true rfl])) fun _ => ev_is (ev_eq (x := .str d.shown) (y := .str d.shown) (fun H4 e4 Q' q' => ⟨.ref a, rfl, a, dd, _, x, rfl, e4 _ _ (e3 _ _ ha), e4 _ _ (e3 _ _ hdd), by simp [List.lookup], x, d, rfl, dy_mono (e03.trans e4) hd, sh, y0.ex (e03.trans e4), q' H4 (Ex.refl H4)⟩) (fun H4 e4 Q' q' => ⟨x, rfl, x, d, rfl, dy_mono (e03.trans e4) hd, sh, y0.ex (e03.trans e4), q' H4 (Ex.refl H4)⟩) rfl) (by rw [decide_eq_true rfl])) rfl) fun H4 e4 => q H4 (e03.trans e4)
end

/-! ### the law -/
section
variable {K : PySem.W.Frag}
mutual
theorem trv_dy {H : Hp} : ∀ (t : Tr) (v : V), TrV H v t → Dy K H v t.dat
  | .hand n, _, h => by cases h; simp only [Tr.dat]; exact .str n
  | .grp n b ms, _, h => by
    cases h with
    | grp h1 h2 h3 =>
      simp only [Tr.dat]
      exact .tup (st_of h1) (.cons (.str n) (.cons (.int b) (.cons (.tup (st_of h2) (trvs_dy ms _ h3)) .nil)))
theorem trvs_dy {H : Hp} : ∀ (ts : List Tr) (vs : List V), TrVs H vs ts → DyAll K H vs (dats ts)
  | [], _, h => by cases h; simp only [dats]; exact .nil
  | t :: ts, _, h => by
    cases h with
    | cons h1 h2 =>
      simp only [dats]
      exact .cons (trv_dy t _ h1) (trvs_dy ts _ h2)
end
end
def spLaw (K : PySem.W.Frag) : Sp := fun vs H Q _ => ∃ (a : Addr) (ns : List Int), vs = [.ref a] ∧ SqL K H a (ns.map V.int) ∧ ns.length ≤ 63 ∧ Sy K H ∧ ∀ H', Q (.bl true) H'
section
variable {P : Program} {w : World} {K : PySem.W.Frag} {mg : Str → Option Value} {base : Heap}
theorem ok_law (T : Tp w K mg) : FnG P w K mg base 33 T.f_law T.d_law ["_law_script"] (spLaw K) := by
  refine fun_g T.F_law sc_law (fun vs H Q E h => ?_) (fun cdv A outer s H vs Q E hG hr h => ?_)
  · obtain ⟨a, ns, rfl, _⟩ := h
    rfl
  obtain ⟨a, ns, rfl, hS, h63, y0, q⟩ := h
  refine ⟨_, (pss_cons (ps_set (i := 1) sc_law.nd rfl (Or.inl rfl) (pe_call (ok__law_hand T) (hr.mono (by decide)) rfl T.m__law_hand T.F__law_hand.kp (b__law_hand T) .nil pass0 (pa_cons (pv 0) pa_nil (star1 rfl)) (by decide) (star1 rfl) (starAll rfl)))
  (pss_cons (ps_if (pt_not (pt_val (pe_callG (ok__law_made_right T) hG (hr.mono (by decide)) rfl T.m__law_made_right T.F__law_made_right.kp (b__law_made_right T) (pa_cons (pv 1) pa_nil (star1 rfl))))) (pss_one (ps_ret pe_bl)) pss_nil)
  (pss_cons (ps_for PassesOwn.never rfl (pi_range1 rfl T.z_range (pa_cons pe_int pa_nil (star1 rfl))) (pg_name (i := 2) sc_law.nd rfl (Or.inl rfl)) (pss_cons (ps_set (i := 3) sc_law.nd rfl (Or.inr rfl) (pe_call (ok__law_plan T) (hr.mono (by decide)) rfl T.m__law_plan T.F__law_plan.kp (b__law_plan T) .nil pass0 (pa_cons (pv 1) (pa_cons (pe_call0 (ok__law_sizes T) (hr.mono (by decide)) rfl T.m__law_sizes T.F__law_sizes.kp (b__law_sizes T) .nil pass0) pa_nil (star1 rfl)) (star1 rfl)) (by decide) (star1 rfl) (starAll rfl)))
  (pss_cons (ps_set (i := 4) sc_law.nd rfl (Or.inr rfl) (pe_call (ok__law_all T) (hr.mono (by decide)) rfl T.m__law_all T.F__law_all.kp (b__law_all T) .nil pass0 (pa_cons (pv 3) pa_nil (star1 rfl)) (by decide) (star1 rfl) (starAll rfl)))
  (pss_cons (ps_for PassesOwn.never rfl (pi_range1 rfl T.z_range (pa_cons pe_int pa_nil (star1 rfl))) (pg_name (i := 5) sc_law.nd rfl (Or.inl rfl)) (pss_one (ps_if (pt_not (pt_val (pe_callG (ok__law_right T) hG (hr.mono (by decide)) rfl T.m__law_right T.F__law_right.kp (b__law_right T) (pa_cons (pv 3) (pa_cons (pv 4) (pa_cons (pe_call (ok__law_near T) (hr.mono (by decide)) rfl T.m__law_near T.F__law_near.kp (b__law_near T) .nil pass0 (pa_cons (pv 1) (pa_cons (pv 4) pa_nil (star1 rfl)) (star1 rfl)) (by decide) (star1 rfl) (starAll rfl)) pa_nil (star1 rfl)) (star1 rfl)) (star1 rfl))))) (pss_one (ps_ret pe_bl)) pss_nil)))
  (pss_one (ps_if (pt_not (pt_val (pe_callB (allK (K := K) rfl rfl) rfl T.z_all (by decide +kernel) (pa_cons (pe_lc (own := [("_law_name", 6)]) (g := gName 6) (tt := tYes) rfl sc_law.nd (pi_list (pv 4)) (blkOk_by (N := N_law) (sc := defScope s_law) (by decide +kernel)) (fun _ _ _ _ _ => (pg_name (i := 6) sc_law.nd rfl (Or.inl rfl))) (fun _ _ _ _ _ => pts_nil) (fun _ _ _ _ _ => (pe_callG (ok__law_right T) hG (hr.mono (by decide)) rfl T.m__law_right T.F__law_right.kp (b__law_right T) (pa_cons (pv 3) (pa_cons (pv 4) (pa_cons (pv 6) pa_nil (star1 rfl)) (star1 rfl)) (star1 rfl))))) pa_nil (star1 rfl)) (by decide) (by decide) (star1 rfl) (starAll rfl)))) (pss_one (ps_ret pe_bl)) pss_nil))))))
  (pss_one (ps_ret pe_bl))))), ?_⟩
  refine q_asgP ?_
  refine ⟨_, rfl, a, ns, rfl, hS, h63, fun h l H1 e1 hh hl A1 => ?_⟩
  refine q_notB ?_
  refine ⟨_, rfl, h, l, rfl, A1, y0.ex e1, fun H2 A2 k2 => ⟨true, rfl, iteF ?_⟩⟩
  have y2 := (y0.ex e1).kp A1 k2
  refine q_forR1 (n := 3) (ea_cons ev_c ea_nil) (by decide) (fun i σ' H' => Hand H' h l ∧ Sy K H' ∧ ∃ c2 c3 c4 c5 c6, σ' = [some (.ref a), some (.ref h), c2, c3, c4, c5, c6]) ?_ ?_ ?_
  · intro H3 e3
    exact ⟨A2.ex e3, y2.ex e3, _, _, _, _, _, rfl⟩
  rotate_left
  · intro σ' H3 hP
    exact s_ret ev_c fun H4 e4 => q H4
  intro i σ' H3 hi hP
  obtain ⟨A3, y3, c2, c3, c4, c5, c6, rfl⟩ := hP
  refine q_asgP ?_
  refine ⟨_, rfl, rfl, fun sa xs H4 e4 hsa0 hsa x1 x2 hxs => ?_⟩
  have A4 := A3.ex e4
  obtain ⟨n1, n2⟩ := A3.fresh hsa0
  refine ⟨h, l, sa, xs, rfl, A4, n1, n2, hsa, x1, x2, hxs, fun v n b ms H5 A5 kp5 tv tok tdp tsz tnd tnm => ?_⟩
  have y5 := (y3.ex e4).kp A4 kp5
  have fit := tree_fits tnm tok (by omega) (by omega)
  have allE : allG (Tr.grp n b ms).dat = some (Tr.grp n b ms).nms := by
    rw [← all_tree _ tok tnm]
    simp only [Tr.dat]
    rfl
  refine q_asgP ?_
  refine ⟨_, rfl, v, (Tr.grp n b ms).dat, rfl, tree_dx tv, fit.1, fit.2.1, fit.2.2, fun H6 e6 hn => (by rw [allE] at hn; cases hn), fun np ns' H6 e6 hnp hnp6 hns => ?_⟩
  rw [allE] at hns
  obtain rfl := Option.some.inj hns
  have A6 := A5.ex e6
  have y6 := y5.ex e6
  obtain ⟨m1, m2⟩ := A5.fresh hnp
  have tv6 := trv_tk (TK.ex e6) _ _ tv
  have nl := nms_len (Tr.grp n b ms)
  have sp := size_pos (Tr.grp n b ms)
  refine q_forR1 (n := 12) (ea_cons ev_c ea_nil) (by decide) (fun i σ' H' => Hand H' h l ∧ Kp h l H6 H' ∧ ∃ c2 c5 c6, σ' = [some (.ref a), some (.ref h), c2, some v, some (.ref np), c5, c6]) ?_ ?_ ?_
  · intro H7 e7
    exact ⟨A6.ex e7, Kp.ex e7, _, _, _, rfl⟩
  · intro j σ' H7 hj hP
    obtain ⟨A7, k7, d2, d5, d6, rfl⟩ := hP
    refine s_notB ?_
    refine ⟨_, rfl, _, rfl, _, rfl, _, rfl, h, l, np, _, rfl, A7, m1, m2, k7 _ _ m1 m2 hnp6, by omega, by omega, tnm, fun u H8 A8 k8 g8 => ?_⟩
    obtain ⟨d, dy, w1, w2, w3, w4⟩ := g8
    have k68 := k7.trans k8
    refine ⟨v, u, np, n, b, ms, d, rfl, trv_tk (fun a xs e => kp_tup A6 k68 e) _ _ tv6, by omega, by omega, k68 _ _ m1 m2 hnp6, dy_mono (aside_sub _ _) dy, shows_of (by decide) w4 w1 w3 (by decide) (by decide), y6.kp A6 k68, fun H9 e9 => ⟨true, rfl, iteF ?_⟩⟩
    exact ⟨A8.ex e9, k68.trans (Kp.ex e9), _, _, _, rfl⟩
  · intro σ' H7 hP
    obtain ⟨A7, k7, d2, d5, d6, rfl⟩ := hP
    have hnp7 := k7 _ _ m1 m2 hnp6
    have tv7 := trv_tk (fun a xs e => kp_tup A6 k7 e) _ _ tv6
    have y7 := y6.kp A6 k7
    have lc := el_lcL (K := K) (σ := [some (.ref a), some (.ref h), d2, some v, some (.ref np), d5, d6]) (H := H7) (a := np) (xs := (Tr.grp n b ms).nms.map V.str) (tl := tVar 4) (t := tYes) (te := tCall (spRight K) [] E0 (tCons (tVar 3) (tCons (tVar 4) (tCons (tVar 6) tNil)))) (j := 6) (vs := [6]) (fun _ => true) (fun _ => V.bl true) (ev_var rfl) (sq_of hnp7) (by rw [List.length_map]; omega) (fun x => rfl) (fun _ _ _ _ _ => et_yes) (fun j x H8 e8 hx _ => ?_)
    · rw [given_all, List.length_map] at lc
      have e0 : (List.range (Tr.grp n b ms).nms.length).map (fun _ => V.bl true) = ((List.range (Tr.grp n b ms).nms.length).map fun _ => true).map V.bl := by
        rw [List.map_map]
        rfl
      rw [e0] at lc
      refine s_when (b := false) (et_is (et_not (et_B (ev_allN lc))) ?_) (fun hb => by cases hb) (fun _ H8 e8 => ⟨A7.ex e8, y7.ex e8, _, _, _, _, _, rfl⟩)
      have e9 : ((List.range (Tr.grp n b ms).nms.length).map fun _ => true).all id = true := by
        rw [List.all_eq_true]
        intro x hx
        obtain ⟨_, _, rfl⟩ := List.mem_map.mp hx
        rfl
      rw [e9]
      rfl
    · obtain ⟨z, hz, rfl⟩ := List.mem_map.mp (List.mem_of_getElem? hx)
      have zn := tnm z hz
      have z2 := zn.2.1
      have za : asc z := fun c hc => by
        have := zn.2.2 c hc
        omega
      exact ev_call (ea_cons (ev_var rfl) (ea_cons (ev_var rfl) (ea_cons (ev_var rfl) ea_nil))) fun H9 e9 Q' q' E' => ⟨v, .str z, np, n, b, ms, .str z, rfl, trv_tk (TK.ex (e8.trans e9)) _ _ tv7, by omega, by omega, (e8.trans e9) _ _ hnp7, Dy.str z, shows_of (B := 2) (W := 100) (D := 1) (by decide) (by simp only [okD]; exact za) (by simp only [wt]; omega) (by simp [PyData.depth]) (by decide) (by decide), y7.ex (e8.trans e9), q'⟩
end

theorem all_mk {l : PySem.W.OpenLaw} {w : World} {K : PySem.W.Frag} {h : Heap} {mg : Str → Option Value} {fa f0 f1 f2 f3 f4 f5 f6 f7 f8 f9 f10 f11 f12 f13 f14 f15 f16 f17 f18 f19 : Addr} {C_LockError : Addr} {C_NoName : Addr} {C_NoText : Addr} {C_NoPlan : Addr} {C_NoBook : Addr} {C_NoScript : Addr} {C_NoBounds : Addr} {C_NotWaiting : Addr} {C_Uneven : Addr} {C_NoStep : Addr} {C_TooMany : Addr} {C_Endless : Addr} {C_NoLine : Addr} {C_NoHouse : Addr} (X : K.In h) (G : h.Ns mainGlobals mg) (hfa : mg "law" = some (.ref fa))
    {od0 an0 od1 an1 od2 an2 od3 an3 od4 an4 od5 an5 od6 an6 od7 an7 od8 an8 od9 an9 od10 an10 od11 an11 od12 an12 od13 an13 od14 an14 od15 an15 od16 an16 od17 an17 od18 an18 od19 an19 : Option Addr} {sl0 sl1 sl2 sl3 sl4 sl5 sl6 sl7 sl8 sl9 sl10 sl11 sl12 sl13 sl14 sl15 sl16 sl17 sl18 sl19 : Array (Option Value)} {oc0 kV0 dc0 pm0 cd0 ct0 oc1 kV1 dc1 pm1 cd1 ct1 oc2 kV2 dc2 pm2 cd2 ct2 oc3 kV3 dc3 pm3 cd3 ct3 oc4 kV4 dc4 pm4 cd4 ct4 oc5 kV5 dc5 pm5 cd5 ct5 oc6 kV6 dc6 pm6 cd6 ct6 oc7 kV7 dc7 pm7 cd7 ct7 oc8 kV8 dc8 pm8 cd8 ct8 oc9 kV9 dc9 pm9 cd9 ct9 oc10 kV10 dc10 pm10 cd10 ct10 oc11 kV11 dc11 pm11 cd11 ct11 oc12 kV12 dc12 pm12 cd12 ct12 oc13 kV13 dc13 pm13 cd13 ct13 oc14 kV14 dc14 pm14 cd14 ct14 oc15 kV15 dc15 pm15 cd15 ct15 oc16 kV16 dc16 pm16 cd16 ct16 oc17 kV17 dc17 pm17 cd17 ct17 oc18 kV18 dc18 pm18 cd18 ct18 oc19 kV19 dc19 pm19 cd19 ct19 : Value}
    (aC_LockError : PySem.W.nsIn K mainGlobals "LockError" = some (some (.ref C_LockError))) (hg_LockError : PySem.W.findIn K (.ref C_LockError) "__getattribute__" = some (some (.builtin "BaseException.__getattribute__"))) (hk_LockError : PySem.W.findIn K (.ref C_LockError) "__getattr__" = some none) (hs_LockError : PySem.W.subIn K (.ref C_LockError) (.type "BaseException") = some true) (hd_LockError : PySem.W.hasDictIn K C_LockError = true) (ha_LockError : PySem.W.findIn K (.ref C_LockError) "__class__" = some (some (.builtin "object.__class__"))) (hn_LockError : PySem.W.specialIn K (.builtin "object.__class__") "__get__" = some (some (.builtin "getset_descriptor.__get__"))) (ht_LockError : PySem.W.takesIn K (.builtin "object.__class__") = some true) (hm_LockError : PySem.W.mroIn K C_LockError (.type "object") = some true) (kC_LockError : PySem.W.keepIn K (.ref C_LockError) = true) (tyC_LockError : PySem.W.typeIn K (.ref C_LockError) = some (.type "type")) (xp_LockError : PySem.W.excIn K C_LockError [.type "ValueError", .type "Exception", .type "BaseException", .type "object"] "ValueError.__new__" = true)
    {nm_NoName qn_NoName : Str} {N_NoName : Addr} {bs_NoName bm_NoName : List Value} {sn_NoName : List Str} {sub_NoName : List Value} {ab_NoName : Bool} {col_NoName : Option Bool} {dd_NoName : Option Addr} {k0_NoName k1_NoName k2_NoName k3_NoName k5_NoName : Option Value}
    (aC_NoName : PySem.W.nsIn K mainGlobals "NoName" = some (some (.ref C_NoName))) (hg_NoName : PySem.W.findIn K (.ref C_NoName) "__getattribute__" = some (some (.builtin "BaseException.__getattribute__"))) (hk_NoName : PySem.W.findIn K (.ref C_NoName) "__getattr__" = some none) (hs_NoName : PySem.W.subIn K (.ref C_NoName) (.type "BaseException") = some true) (hd_NoName : PySem.W.hasDictIn K C_NoName = true) (ha_NoName : PySem.W.findIn K (.ref C_NoName) "__class__" = some (some (.builtin "object.__class__"))) (hn_NoName : PySem.W.specialIn K (.builtin "object.__class__") "__get__" = some (some (.builtin "getset_descriptor.__get__"))) (ht_NoName : PySem.W.takesIn K (.builtin "object.__class__") = some true) (hm_NoName : PySem.W.mroIn K C_NoName (.type "object") = some true) (kC_NoName : PySem.W.keepIn K (.ref C_NoName) = true) (tyC_NoName : PySem.W.typeIn K (.ref C_NoName) = some (.type "type")) (lx_NoName : K.lookup C_NoName = some (excClassObj nm_NoName qn_NoName C_NoName N_NoName bs_NoName bm_NoName true sn_NoName sub_NoName ab_NoName col_NoName dd_NoName k0_NoName k1_NoName k2_NoName k3_NoName k5_NoName "ValueError.__new__")) (rv_NoName : PySem.HandSPX.refsVE bm_NoName = true) (sa_NoName : PySem.W.findIn K (.ref C_NoName) "__setattr__" = some (some (.builtin "object.__setattr__"))) (ii_NoName : PySem.W.findIn K (.ref C_NoName) "__init__" = some (some (.ref f18))) (ti_NoName : PySem.W.typeIn K (.ref f18) = some (.type "function")) (na_NoName : PySem.W.findIn K (.ref C_NoName) "name" = some none)
    {nm_NoText qn_NoText : Str} {N_NoText : Addr} {bs_NoText bm_NoText : List Value} {sn_NoText : List Str} {sub_NoText : List Value} {ab_NoText : Bool} {col_NoText : Option Bool} {dd_NoText : Option Addr} {k0_NoText k1_NoText k2_NoText k3_NoText k5_NoText : Option Value}
    (aC_NoText : PySem.W.nsIn K mainGlobals "NoText" = some (some (.ref C_NoText))) (hg_NoText : PySem.W.findIn K (.ref C_NoText) "__getattribute__" = some (some (.builtin "BaseException.__getattribute__"))) (hk_NoText : PySem.W.findIn K (.ref C_NoText) "__getattr__" = some none) (hs_NoText : PySem.W.subIn K (.ref C_NoText) (.type "BaseException") = some true) (hd_NoText : PySem.W.hasDictIn K C_NoText = true) (ha_NoText : PySem.W.findIn K (.ref C_NoText) "__class__" = some (some (.builtin "object.__class__"))) (hn_NoText : PySem.W.specialIn K (.builtin "object.__class__") "__get__" = some (some (.builtin "getset_descriptor.__get__"))) (ht_NoText : PySem.W.takesIn K (.builtin "object.__class__") = some true) (hm_NoText : PySem.W.mroIn K C_NoText (.type "object") = some true) (kC_NoText : PySem.W.keepIn K (.ref C_NoText) = true) (tyC_NoText : PySem.W.typeIn K (.ref C_NoText) = some (.type "type")) (lx_NoText : K.lookup C_NoText = some (excClassObj nm_NoText qn_NoText C_NoText N_NoText bs_NoText bm_NoText true sn_NoText sub_NoText ab_NoText col_NoText dd_NoText k0_NoText k1_NoText k2_NoText k3_NoText k5_NoText "ValueError.__new__")) (rv_NoText : PySem.HandSPX.refsVE bm_NoText = true) (sa_NoText : PySem.W.findIn K (.ref C_NoText) "__setattr__" = some (some (.builtin "object.__setattr__"))) (ii_NoText : PySem.W.findIn K (.ref C_NoText) "__init__" = some (some (.ref f19))) (ti_NoText : PySem.W.typeIn K (.ref f19) = some (.type "function")) (na_NoText : PySem.W.findIn K (.ref C_NoText) "row" = some none)
    (aC_NoPlan : PySem.W.nsIn K mainGlobals "NoPlan" = some (some (.ref C_NoPlan))) (hg_NoPlan : PySem.W.findIn K (.ref C_NoPlan) "__getattribute__" = some (some (.builtin "BaseException.__getattribute__"))) (hk_NoPlan : PySem.W.findIn K (.ref C_NoPlan) "__getattr__" = some none) (hs_NoPlan : PySem.W.subIn K (.ref C_NoPlan) (.type "BaseException") = some true) (hd_NoPlan : PySem.W.hasDictIn K C_NoPlan = true) (ha_NoPlan : PySem.W.findIn K (.ref C_NoPlan) "__class__" = some (some (.builtin "object.__class__"))) (hn_NoPlan : PySem.W.specialIn K (.builtin "object.__class__") "__get__" = some (some (.builtin "getset_descriptor.__get__"))) (ht_NoPlan : PySem.W.takesIn K (.builtin "object.__class__") = some true) (hm_NoPlan : PySem.W.mroIn K C_NoPlan (.type "object") = some true) (kC_NoPlan : PySem.W.keepIn K (.ref C_NoPlan) = true) (tyC_NoPlan : PySem.W.typeIn K (.ref C_NoPlan) = some (.type "type")) (xp_NoPlan : PySem.W.excIn K C_NoPlan [.type "ValueError", .type "Exception", .type "BaseException", .type "object"] "ValueError.__new__" = true)
    (aC_NoBook : PySem.W.nsIn K mainGlobals "NoBook" = some (some (.ref C_NoBook))) (hg_NoBook : PySem.W.findIn K (.ref C_NoBook) "__getattribute__" = some (some (.builtin "BaseException.__getattribute__"))) (hk_NoBook : PySem.W.findIn K (.ref C_NoBook) "__getattr__" = some none) (hs_NoBook : PySem.W.subIn K (.ref C_NoBook) (.type "BaseException") = some true) (hd_NoBook : PySem.W.hasDictIn K C_NoBook = true) (ha_NoBook : PySem.W.findIn K (.ref C_NoBook) "__class__" = some (some (.builtin "object.__class__"))) (hn_NoBook : PySem.W.specialIn K (.builtin "object.__class__") "__get__" = some (some (.builtin "getset_descriptor.__get__"))) (ht_NoBook : PySem.W.takesIn K (.builtin "object.__class__") = some true) (hm_NoBook : PySem.W.mroIn K C_NoBook (.type "object") = some true) (kC_NoBook : PySem.W.keepIn K (.ref C_NoBook) = true) (tyC_NoBook : PySem.W.typeIn K (.ref C_NoBook) = some (.type "type")) (xp_NoBook : PySem.W.excIn K C_NoBook [.type "ValueError", .type "Exception", .type "BaseException", .type "object"] "ValueError.__new__" = true)
    (aC_NoScript : PySem.W.nsIn K mainGlobals "NoScript" = some (some (.ref C_NoScript))) (hg_NoScript : PySem.W.findIn K (.ref C_NoScript) "__getattribute__" = some (some (.builtin "BaseException.__getattribute__"))) (hk_NoScript : PySem.W.findIn K (.ref C_NoScript) "__getattr__" = some none) (hs_NoScript : PySem.W.subIn K (.ref C_NoScript) (.type "BaseException") = some true) (hd_NoScript : PySem.W.hasDictIn K C_NoScript = true) (ha_NoScript : PySem.W.findIn K (.ref C_NoScript) "__class__" = some (some (.builtin "object.__class__"))) (hn_NoScript : PySem.W.specialIn K (.builtin "object.__class__") "__get__" = some (some (.builtin "getset_descriptor.__get__"))) (ht_NoScript : PySem.W.takesIn K (.builtin "object.__class__") = some true) (hm_NoScript : PySem.W.mroIn K C_NoScript (.type "object") = some true) (kC_NoScript : PySem.W.keepIn K (.ref C_NoScript) = true) (tyC_NoScript : PySem.W.typeIn K (.ref C_NoScript) = some (.type "type")) (xp_NoScript : PySem.W.excIn K C_NoScript [.type "ValueError", .type "Exception", .type "BaseException", .type "object"] "ValueError.__new__" = true)
    (aC_NoBounds : PySem.W.nsIn K mainGlobals "NoBounds" = some (some (.ref C_NoBounds))) (hg_NoBounds : PySem.W.findIn K (.ref C_NoBounds) "__getattribute__" = some (some (.builtin "BaseException.__getattribute__"))) (hk_NoBounds : PySem.W.findIn K (.ref C_NoBounds) "__getattr__" = some none) (hs_NoBounds : PySem.W.subIn K (.ref C_NoBounds) (.type "BaseException") = some true) (hd_NoBounds : PySem.W.hasDictIn K C_NoBounds = true) (ha_NoBounds : PySem.W.findIn K (.ref C_NoBounds) "__class__" = some (some (.builtin "object.__class__"))) (hn_NoBounds : PySem.W.specialIn K (.builtin "object.__class__") "__get__" = some (some (.builtin "getset_descriptor.__get__"))) (ht_NoBounds : PySem.W.takesIn K (.builtin "object.__class__") = some true) (hm_NoBounds : PySem.W.mroIn K C_NoBounds (.type "object") = some true) (kC_NoBounds : PySem.W.keepIn K (.ref C_NoBounds) = true) (tyC_NoBounds : PySem.W.typeIn K (.ref C_NoBounds) = some (.type "type")) (xp_NoBounds : PySem.W.excIn K C_NoBounds [.type "ValueError", .type "Exception", .type "BaseException", .type "object"] "ValueError.__new__" = true)
    (aC_NotWaiting : PySem.W.nsIn K mainGlobals "NotWaiting" = some (some (.ref C_NotWaiting))) (hg_NotWaiting : PySem.W.findIn K (.ref C_NotWaiting) "__getattribute__" = some (some (.builtin "BaseException.__getattribute__"))) (hk_NotWaiting : PySem.W.findIn K (.ref C_NotWaiting) "__getattr__" = some none) (hs_NotWaiting : PySem.W.subIn K (.ref C_NotWaiting) (.type "BaseException") = some true) (hd_NotWaiting : PySem.W.hasDictIn K C_NotWaiting = true) (ha_NotWaiting : PySem.W.findIn K (.ref C_NotWaiting) "__class__" = some (some (.builtin "object.__class__"))) (hn_NotWaiting : PySem.W.specialIn K (.builtin "object.__class__") "__get__" = some (some (.builtin "getset_descriptor.__get__"))) (ht_NotWaiting : PySem.W.takesIn K (.builtin "object.__class__") = some true) (hm_NotWaiting : PySem.W.mroIn K C_NotWaiting (.type "object") = some true) (kC_NotWaiting : PySem.W.keepIn K (.ref C_NotWaiting) = true) (tyC_NotWaiting : PySem.W.typeIn K (.ref C_NotWaiting) = some (.type "type")) (xp_NotWaiting : PySem.W.excIn K C_NotWaiting [.type "ValueError", .type "Exception", .type "BaseException", .type "object"] "ValueError.__new__" = true)
    (aC_Uneven : PySem.W.nsIn K mainGlobals "Uneven" = some (some (.ref C_Uneven))) (hg_Uneven : PySem.W.findIn K (.ref C_Uneven) "__getattribute__" = some (some (.builtin "BaseException.__getattribute__"))) (hk_Uneven : PySem.W.findIn K (.ref C_Uneven) "__getattr__" = some none) (hs_Uneven : PySem.W.subIn K (.ref C_Uneven) (.type "BaseException") = some true) (hd_Uneven : PySem.W.hasDictIn K C_Uneven = true) (ha_Uneven : PySem.W.findIn K (.ref C_Uneven) "__class__" = some (some (.builtin "object.__class__"))) (hn_Uneven : PySem.W.specialIn K (.builtin "object.__class__") "__get__" = some (some (.builtin "getset_descriptor.__get__"))) (ht_Uneven : PySem.W.takesIn K (.builtin "object.__class__") = some true) (hm_Uneven : PySem.W.mroIn K C_Uneven (.type "object") = some true) (kC_Uneven : PySem.W.keepIn K (.ref C_Uneven) = true) (tyC_Uneven : PySem.W.typeIn K (.ref C_Uneven) = some (.type "type")) (xp_Uneven : PySem.W.excIn K C_Uneven [.type "ValueError", .type "Exception", .type "BaseException", .type "object"] "ValueError.__new__" = true)
    (aC_NoStep : PySem.W.nsIn K mainGlobals "NoStep" = some (some (.ref C_NoStep))) (hg_NoStep : PySem.W.findIn K (.ref C_NoStep) "__getattribute__" = some (some (.builtin "BaseException.__getattribute__"))) (hk_NoStep : PySem.W.findIn K (.ref C_NoStep) "__getattr__" = some none) (hs_NoStep : PySem.W.subIn K (.ref C_NoStep) (.type "BaseException") = some true) (hd_NoStep : PySem.W.hasDictIn K C_NoStep = true) (ha_NoStep : PySem.W.findIn K (.ref C_NoStep) "__class__" = some (some (.builtin "object.__class__"))) (hn_NoStep : PySem.W.specialIn K (.builtin "object.__class__") "__get__" = some (some (.builtin "getset_descriptor.__get__"))) (ht_NoStep : PySem.W.takesIn K (.builtin "object.__class__") = some true) (hm_NoStep : PySem.W.mroIn K C_NoStep (.type "object") = some true) (kC_NoStep : PySem.W.keepIn K (.ref C_NoStep) = true) (tyC_NoStep : PySem.W.typeIn K (.ref C_NoStep) = some (.type "type")) (xp_NoStep : PySem.W.excIn K C_NoStep [.type "ValueError", .type "Exception", .type "BaseException", .type "object"] "ValueError.__new__" = true)
    (aC_TooMany : PySem.W.nsIn K mainGlobals "TooMany" = some (some (.ref C_TooMany))) (hg_TooMany : PySem.W.findIn K (.ref C_TooMany) "__getattribute__" = some (some (.builtin "BaseException.__getattribute__"))) (hk_TooMany : PySem.W.findIn K (.ref C_TooMany) "__getattr__" = some none) (hs_TooMany : PySem.W.subIn K (.ref C_TooMany) (.type "BaseException") = some true) (hd_TooMany : PySem.W.hasDictIn K C_TooMany = true) (ha_TooMany : PySem.W.findIn K (.ref C_TooMany) "__class__" = some (some (.builtin "object.__class__"))) (hn_TooMany : PySem.W.specialIn K (.builtin "object.__class__") "__get__" = some (some (.builtin "getset_descriptor.__get__"))) (ht_TooMany : PySem.W.takesIn K (.builtin "object.__class__") = some true) (hm_TooMany : PySem.W.mroIn K C_TooMany (.type "object") = some true) (kC_TooMany : PySem.W.keepIn K (.ref C_TooMany) = true) (tyC_TooMany : PySem.W.typeIn K (.ref C_TooMany) = some (.type "type")) (xp_TooMany : PySem.W.excIn K C_TooMany [.type "ValueError", .type "Exception", .type "BaseException", .type "object"] "ValueError.__new__" = true)
    (aC_Endless : PySem.W.nsIn K mainGlobals "Endless" = some (some (.ref C_Endless))) (hg_Endless : PySem.W.findIn K (.ref C_Endless) "__getattribute__" = some (some (.builtin "BaseException.__getattribute__"))) (hk_Endless : PySem.W.findIn K (.ref C_Endless) "__getattr__" = some none) (hs_Endless : PySem.W.subIn K (.ref C_Endless) (.type "BaseException") = some true) (hd_Endless : PySem.W.hasDictIn K C_Endless = true) (ha_Endless : PySem.W.findIn K (.ref C_Endless) "__class__" = some (some (.builtin "object.__class__"))) (hn_Endless : PySem.W.specialIn K (.builtin "object.__class__") "__get__" = some (some (.builtin "getset_descriptor.__get__"))) (ht_Endless : PySem.W.takesIn K (.builtin "object.__class__") = some true) (hm_Endless : PySem.W.mroIn K C_Endless (.type "object") = some true) (kC_Endless : PySem.W.keepIn K (.ref C_Endless) = true) (tyC_Endless : PySem.W.typeIn K (.ref C_Endless) = some (.type "type")) (xp_Endless : PySem.W.excIn K C_Endless [.type "ValueError", .type "Exception", .type "BaseException", .type "object"] "ValueError.__new__" = true)
    (aC_NoLine : PySem.W.nsIn K mainGlobals "NoLine" = some (some (.ref C_NoLine))) (hg_NoLine : PySem.W.findIn K (.ref C_NoLine) "__getattribute__" = some (some (.builtin "BaseException.__getattribute__"))) (hk_NoLine : PySem.W.findIn K (.ref C_NoLine) "__getattr__" = some none) (hs_NoLine : PySem.W.subIn K (.ref C_NoLine) (.type "BaseException") = some true) (hd_NoLine : PySem.W.hasDictIn K C_NoLine = true) (ha_NoLine : PySem.W.findIn K (.ref C_NoLine) "__class__" = some (some (.builtin "object.__class__"))) (hn_NoLine : PySem.W.specialIn K (.builtin "object.__class__") "__get__" = some (some (.builtin "getset_descriptor.__get__"))) (ht_NoLine : PySem.W.takesIn K (.builtin "object.__class__") = some true) (hm_NoLine : PySem.W.mroIn K C_NoLine (.type "object") = some true) (kC_NoLine : PySem.W.keepIn K (.ref C_NoLine) = true) (tyC_NoLine : PySem.W.typeIn K (.ref C_NoLine) = some (.type "type")) (xp_NoLine : PySem.W.excIn K C_NoLine [.type "ValueError", .type "Exception", .type "BaseException", .type "object"] "ValueError.__new__" = true)
    (aC_NoHouse : PySem.W.nsIn K mainGlobals "NoHouse" = some (some (.ref C_NoHouse))) (hg_NoHouse : PySem.W.findIn K (.ref C_NoHouse) "__getattribute__" = some (some (.builtin "BaseException.__getattribute__"))) (hk_NoHouse : PySem.W.findIn K (.ref C_NoHouse) "__getattr__" = some none) (hs_NoHouse : PySem.W.subIn K (.ref C_NoHouse) (.type "BaseException") = some true) (hd_NoHouse : PySem.W.hasDictIn K C_NoHouse = true) (ha_NoHouse : PySem.W.findIn K (.ref C_NoHouse) "__class__" = some (some (.builtin "object.__class__"))) (hn_NoHouse : PySem.W.specialIn K (.builtin "object.__class__") "__get__" = some (some (.builtin "getset_descriptor.__get__"))) (ht_NoHouse : PySem.W.takesIn K (.builtin "object.__class__") = some true) (hm_NoHouse : PySem.W.mroIn K C_NoHouse (.type "object") = some true) (kC_NoHouse : PySem.W.keepIn K (.ref C_NoHouse) = true) (tyC_NoHouse : PySem.W.typeIn K (.ref C_NoHouse) = some (.type "type")) (xp_NoHouse : PySem.W.excIn K C_NoHouse [.type "ValueError", .type "Exception", .type "BaseException", .type "object"] "ValueError.__new__" = true)
    (a0 : PySem.W.nsIn K mainGlobals "path_of" = some (some (.ref f0))) (l0 : K.lookup f0 = some ⟨oc0, od0, .func (PySem.W.fnOf "path_of" "path_of" (defArgs s_path_of) (defBody s_path_of) (defScope s_path_of) .none kV0 dc0 pm0 an0 cd0 ct0), sl0⟩) (c0 : PySem.W.codeIn K cd0 "path_of" = true) (k0 : PySem.W.keepIn K (.ref f0) = true)
    (a1 : PySem.W.nsIn K mainGlobals "all_in" = some (some (.ref f1))) (l1 : K.lookup f1 = some ⟨oc1, od1, .func (PySem.W.fnOf "all_in" "all_in" (defArgs s_all_in) (defBody s_all_in) (defScope s_all_in) .none kV1 dc1 pm1 an1 cd1 ct1), sl1⟩) (c1 : PySem.W.codeIn K cd1 "all_in" = true) (k1 : PySem.W.keepIn K (.ref f1) = true)
    (a2 : PySem.W.nsIn K mainGlobals "all_from" = some (some (.ref f2))) (l2 : K.lookup f2 = some ⟨oc2, od2, .func (PySem.W.fnOf "all_from" "all_from" (defArgs s_all_from) (defBody s_all_from) (defScope s_all_from) .none kV2 dc2 pm2 an2 cd2 ct2), sl2⟩) (c2 : PySem.W.codeIn K cd2 "all_from" = true) (k2 : PySem.W.keepIn K (.ref f2) = true)
    (a3 : PySem.W.nsIn K mainGlobals "_law_hand" = some (some (.ref f3))) (l3 : K.lookup f3 = some ⟨oc3, od3, .func (PySem.W.fnOf "_law_hand" "_law_hand" (defArgs s__law_hand) (defBody s__law_hand) (defScope s__law_hand) .none kV3 dc3 pm3 an3 cd3 ct3), sl3⟩) (c3 : PySem.W.codeIn K cd3 "_law_hand" = true) (k3 : PySem.W.keepIn K (.ref f3) = true)
    (a4 : PySem.W.nsIn K mainGlobals "_law_pick" = some (some (.ref f4))) (l4 : K.lookup f4 = some ⟨oc4, od4, .func (PySem.W.fnOf "_law_pick" "_law_pick" (defArgs s__law_pick) (defBody s__law_pick) (defScope s__law_pick) .none kV4 dc4 pm4 an4 cd4 ct4), sl4⟩) (c4 : PySem.W.codeIn K cd4 "_law_pick" = true) (k4 : PySem.W.keepIn K (.ref f4) = true)
    (a5 : PySem.W.nsIn K mainGlobals "_law_of" = some (some (.ref f5))) (l5 : K.lookup f5 = some ⟨oc5, od5, .func (PySem.W.fnOf "_law_of" "_law_of" (defArgs s__law_of) (defBody s__law_of) (defScope s__law_of) .none kV5 dc5 pm5 an5 cd5 ct5), sl5⟩) (c5 : PySem.W.codeIn K cd5 "_law_of" = true) (k5 : PySem.W.keepIn K (.ref f5) = true)
    (a6 : PySem.W.nsIn K mainGlobals "_law_names" = some (some (.ref f6))) (l6 : K.lookup f6 = some ⟨oc6, od6, .func (PySem.W.fnOf "_law_names" "_law_names" (defArgs s__law_names) (defBody s__law_names) (defScope s__law_names) .none kV6 dc6 pm6 an6 cd6 ct6), sl6⟩) (c6 : PySem.W.codeIn K cd6 "_law_names" = true) (k6 : PySem.W.keepIn K (.ref f6) = true)
    (a7 : PySem.W.nsIn K mainGlobals "_law_group" = some (some (.ref f7))) (l7 : K.lookup f7 = some ⟨oc7, od7, .func (PySem.W.fnOf "_law_group" "_law_group" (defArgs s__law_group) (defBody s__law_group) (defScope s__law_group) .none kV7 dc7 pm7 an7 cd7 ct7), sl7⟩) (c7 : PySem.W.codeIn K cd7 "_law_group" = true) (k7 : PySem.W.keepIn K (.ref f7) = true)
    (a8 : PySem.W.nsIn K mainGlobals "_law_sizes" = some (some (.ref f8))) (l8 : K.lookup f8 = some ⟨oc8, od8, .func (PySem.W.fnOf "_law_sizes" "_law_sizes" (defArgs s__law_sizes) (defBody s__law_sizes) (defScope s__law_sizes) .none kV8 dc8 pm8 an8 cd8 ct8), sl8⟩) (c8 : PySem.W.codeIn K cd8 "_law_sizes" = true) (k8 : PySem.W.keepIn K (.ref f8) = true)
    (a9 : PySem.W.nsIn K mainGlobals "_law_plan" = some (some (.ref f9))) (l9 : K.lookup f9 = some ⟨oc9, od9, .func (PySem.W.fnOf "_law_plan" "_law_plan" (defArgs s__law_plan) (defBody s__law_plan) (defScope s__law_plan) .none kV9 dc9 pm9 an9 cd9 ct9), sl9⟩) (c9 : PySem.W.codeIn K cd9 "_law_plan" = true) (k9 : PySem.W.keepIn K (.ref f9) = true)
    (a10 : PySem.W.nsIn K mainGlobals "_law_is_name" = some (some (.ref f10))) (l10 : K.lookup f10 = some ⟨oc10, od10, .func (PySem.W.fnOf "_law_is_name" "_law_is_name" (defArgs s__law_is_name) (defBody s__law_is_name) (defScope s__law_is_name) .none kV10 dc10 pm10 an10 cd10 ct10), sl10⟩) (c10 : PySem.W.codeIn K cd10 "_law_is_name" = true) (k10 : PySem.W.keepIn K (.ref f10) = true)
    (a11 : PySem.W.nsIn K mainGlobals "_law_all" = some (some (.ref f11))) (l11 : K.lookup f11 = some ⟨oc11, od11, .func (PySem.W.fnOf "_law_all" "_law_all" (defArgs s__law_all) (defBody s__law_all) (defScope s__law_all) .none kV11 dc11 pm11 an11 cd11 ct11), sl11⟩) (c11 : PySem.W.codeIn K cd11 "_law_all" = true) (k11 : PySem.W.keepIn K (.ref f11) = true)
    (a12 : PySem.W.nsIn K mainGlobals "_law_marks" = some (some (.ref f12))) (l12 : K.lookup f12 = some ⟨oc12, od12, .func (PySem.W.fnOf "_law_marks" "_law_marks" (defArgs s__law_marks) (defBody s__law_marks) (defScope s__law_marks) .none kV12 dc12 pm12 an12 cd12 ct12), sl12⟩) (c12 : PySem.W.codeIn K cd12 "_law_marks" = true) (k12 : PySem.W.keepIn K (.ref f12) = true)
    (a13 : PySem.W.nsIn K mainGlobals "_law_is_alone" = some (some (.ref f13))) (l13 : K.lookup f13 = some ⟨oc13, od13, .func (PySem.W.fnOf "_law_is_alone" "_law_is_alone" (defArgs s__law_is_alone) (defBody s__law_is_alone) (defScope s__law_is_alone) .none kV13 dc13 pm13 an13 cd13 ct13), sl13⟩) (c13 : PySem.W.codeIn K cd13 "_law_is_alone" = true) (k13 : PySem.W.keepIn K (.ref f13) = true)
    (a14 : PySem.W.nsIn K mainGlobals "_law_made_right" = some (some (.ref f14))) (l14 : K.lookup f14 = some ⟨oc14, od14, .func (PySem.W.fnOf "_law_made_right" "_law_made_right" (defArgs s__law_made_right) (defBody s__law_made_right) (defScope s__law_made_right) .none kV14 dc14 pm14 an14 cd14 ct14), sl14⟩) (c14 : PySem.W.codeIn K cd14 "_law_made_right" = true) (k14 : PySem.W.keepIn K (.ref f14) = true)
    (a15 : PySem.W.nsIn K mainGlobals "_law_near" = some (some (.ref f15))) (l15 : K.lookup f15 = some ⟨oc15, od15, .func (PySem.W.fnOf "_law_near" "_law_near" (defArgs s__law_near) (defBody s__law_near) (defScope s__law_near) .none kV15 dc15 pm15 an15 cd15 ct15), sl15⟩) (c15 : PySem.W.codeIn K cd15 "_law_near" = true) (k15 : PySem.W.keepIn K (.ref f15) = true)
    (a16 : PySem.W.nsIn K mainGlobals "_law_right" = some (some (.ref f16))) (l16 : K.lookup f16 = some ⟨oc16, od16, .func (PySem.W.fnOf "_law_right" "_law_right" (defArgs s__law_right) (defBody s__law_right) (defScope s__law_right) .none kV16 dc16 pm16 an16 cd16 ct16), sl16⟩) (c16 : PySem.W.codeIn K cd16 "_law_right" = true) (k16 : PySem.W.keepIn K (.ref f16) = true)
    (a17 : PySem.W.nsIn K mainGlobals "law" = some (some (.ref f17))) (l17 : K.lookup f17 = some ⟨oc17, od17, .func (PySem.W.fnOf "law" "law" (defArgs s_law) (defBody s_law) (defScope s_law) .none kV17 dc17 pm17 an17 cd17 ct17), sl17⟩) (c17 : PySem.W.codeIn K cd17 "law" = true) (k17 : PySem.W.keepIn K (.ref f17) = true)
    (l18 : K.lookup f18 = some ⟨oc18, od18, .func (PySem.W.fnOf "__init__" "NoName.__init__" (defArgs s_NoName___init__) (defBody s_NoName___init__) (defScope s_NoName___init__) .none kV18 dc18 pm18 an18 cd18 ct18), sl18⟩) (c18 : PySem.W.codeIn K cd18 "NoName.__init__" = true) (k18 : PySem.W.keepIn K (.ref f18) = true)
    (l19 : K.lookup f19 = some ⟨oc19, od19, .func (PySem.W.fnOf "__init__" "NoText.__init__" (defArgs s_NoText___init__) (defBody s_NoText___init__) (defScope s_NoText___init__) .none kV19 dc19 pm19 an19 cd19 ct19), sl19⟩) (c19 : PySem.W.codeIn K cd19 "NoText.__init__" = true) (k19 : PySem.W.keepIn K (.ref f19) = true)
    (z0 : PySem.W.nsIn K mainGlobals "ValueError" = some none)
    (z1 : PySem.W.nsIn K mainGlobals "all" = some none)
    (z2 : PySem.W.nsIn K mainGlobals "bool" = some none)
    (z3 : PySem.W.nsIn K mainGlobals "enumerate" = some none)
    (z4 : PySem.W.nsIn K mainGlobals "int" = some none)
    (z5 : PySem.W.nsIn K mainGlobals "isinstance" = some none)
    (z6 : PySem.W.nsIn K mainGlobals "len" = some none)
    (z7 : PySem.W.nsIn K mainGlobals "range" = some none)
    (z8 : PySem.W.nsIn K mainGlobals "repr" = some none)
    (z9 : PySem.W.nsIn K mainGlobals "str" = some none)
    (z10 : PySem.W.nsIn K mainGlobals "tuple" = some none)
    (sbs : ((List.range 13).all fun i => (List.range 13).all fun j => PySem.W.subIn K (.ref ([C_NoName, C_NoText, C_NoPlan, C_NoBook, C_NoScript, C_NoBounds, C_NotWaiting, C_Uneven, C_NoStep, C_TooMany, C_Endless, C_NoLine, C_NoHouse].getD i 0)) (.ref ([C_NoName, C_NoText, C_NoPlan, C_NoBook, C_NoScript, C_NoBounds, C_NotWaiting, C_Uneven, C_NoStep, C_TooMany, C_Endless, C_NoLine, C_NoHouse].getD j 0)) == some (decide (i = j))) = true) (sbl : ((List.range 13).all fun i => PySem.W.subIn K (.ref ([C_NoName, C_NoText, C_NoPlan, C_NoBook, C_NoScript, C_NoBounds, C_NotWaiting, C_Uneven, C_NoStep, C_TooMany, C_Endless, C_NoLine, C_NoHouse].getD i 0)) (.ref C_LockError) == some true) = true) (sbv : ((List.range 13).all fun i => PySem.W.subIn K (.ref ([C_NoName, C_NoText, C_NoPlan, C_NoBook, C_NoScript, C_NoBounds, C_NotWaiting, C_Uneven, C_NoStep, C_TooMany, C_Endless, C_NoLine, C_NoHouse].getD i 0)) (.type "ValueError") == some true) = true) :
    ∃ fd : FuncData, (∀ (s : Shared) (v : Value), BindsTo s fd ⟨[v], []⟩ [("_law_script", v)]) ∧ ∀ base : Heap, K.In base → base.Ns mainGlobals mg → FnG l.prog w K mg base 33 fa fd ["_law_script"] (spLaw K) := by
  have e := hfa.symm.trans (PySem.W.mg_of X G a17)
  cases e
  refine ⟨PySem.W.fnOf "law" "law" (defArgs s_law) (defBody s_law) (defScope s_law) .none kV17 dc17 pm17 an17 cd17 ct17, fun s v => .of_eq rfl, fun base _ _ => ?_⟩
  exact ok_law (T := {
    C_LockError := C_LockError, xc_LockError := ⟨⟨hg_LockError, hk_LockError, hs_LockError, hd_LockError, ha_LockError, hn_LockError, ht_LockError, hm_LockError⟩, kC_LockError, tyC_LockError⟩, mc_LockError := PySem.W.mg_of X G aC_LockError,
    xp_LockError := xp_LockError,
    C_NoName := C_NoName, xc_NoName := ⟨⟨hg_NoName, hk_NoName, hs_NoName, hd_NoName, ha_NoName, hn_NoName, ht_NoName, hm_NoName⟩, kC_NoName, tyC_NoName⟩, mc_NoName := PySem.W.mg_of X G aC_NoName,
    ox_NoName := ⟨⟨_, _, _, _, _, _, _, _, _, _, _, _, _, _, _, lx_NoName, rv_NoName⟩, sa_NoName, hs_NoName, tyC_NoName, kC_NoName⟩, ii_NoName := ii_NoName, ti_NoName := ti_NoName, na_NoName_name := na_NoName,
    C_NoText := C_NoText, xc_NoText := ⟨⟨hg_NoText, hk_NoText, hs_NoText, hd_NoText, ha_NoText, hn_NoText, ht_NoText, hm_NoText⟩, kC_NoText, tyC_NoText⟩, mc_NoText := PySem.W.mg_of X G aC_NoText,
    ox_NoText := ⟨⟨_, _, _, _, _, _, _, _, _, _, _, _, _, _, _, lx_NoText, rv_NoText⟩, sa_NoText, hs_NoText, tyC_NoText, kC_NoText⟩, ii_NoText := ii_NoText, ti_NoText := ti_NoText, na_NoText_row := na_NoText,
    C_NoPlan := C_NoPlan, xc_NoPlan := ⟨⟨hg_NoPlan, hk_NoPlan, hs_NoPlan, hd_NoPlan, ha_NoPlan, hn_NoPlan, ht_NoPlan, hm_NoPlan⟩, kC_NoPlan, tyC_NoPlan⟩, mc_NoPlan := PySem.W.mg_of X G aC_NoPlan,
    xp_NoPlan := xp_NoPlan,
    C_NoBook := C_NoBook, xc_NoBook := ⟨⟨hg_NoBook, hk_NoBook, hs_NoBook, hd_NoBook, ha_NoBook, hn_NoBook, ht_NoBook, hm_NoBook⟩, kC_NoBook, tyC_NoBook⟩, mc_NoBook := PySem.W.mg_of X G aC_NoBook,
    xp_NoBook := xp_NoBook,
    C_NoScript := C_NoScript, xc_NoScript := ⟨⟨hg_NoScript, hk_NoScript, hs_NoScript, hd_NoScript, ha_NoScript, hn_NoScript, ht_NoScript, hm_NoScript⟩, kC_NoScript, tyC_NoScript⟩, mc_NoScript := PySem.W.mg_of X G aC_NoScript,
    xp_NoScript := xp_NoScript,
    C_NoBounds := C_NoBounds, xc_NoBounds := ⟨⟨hg_NoBounds, hk_NoBounds, hs_NoBounds, hd_NoBounds, ha_NoBounds, hn_NoBounds, ht_NoBounds, hm_NoBounds⟩, kC_NoBounds, tyC_NoBounds⟩, mc_NoBounds := PySem.W.mg_of X G aC_NoBounds,
    xp_NoBounds := xp_NoBounds,
    C_NotWaiting := C_NotWaiting, xc_NotWaiting := ⟨⟨hg_NotWaiting, hk_NotWaiting, hs_NotWaiting, hd_NotWaiting, ha_NotWaiting, hn_NotWaiting, ht_NotWaiting, hm_NotWaiting⟩, kC_NotWaiting, tyC_NotWaiting⟩, mc_NotWaiting := PySem.W.mg_of X G aC_NotWaiting,
    xp_NotWaiting := xp_NotWaiting,
    C_Uneven := C_Uneven, xc_Uneven := ⟨⟨hg_Uneven, hk_Uneven, hs_Uneven, hd_Uneven, ha_Uneven, hn_Uneven, ht_Uneven, hm_Uneven⟩, kC_Uneven, tyC_Uneven⟩, mc_Uneven := PySem.W.mg_of X G aC_Uneven,
    xp_Uneven := xp_Uneven,
    C_NoStep := C_NoStep, xc_NoStep := ⟨⟨hg_NoStep, hk_NoStep, hs_NoStep, hd_NoStep, ha_NoStep, hn_NoStep, ht_NoStep, hm_NoStep⟩, kC_NoStep, tyC_NoStep⟩, mc_NoStep := PySem.W.mg_of X G aC_NoStep,
    xp_NoStep := xp_NoStep,
    C_TooMany := C_TooMany, xc_TooMany := ⟨⟨hg_TooMany, hk_TooMany, hs_TooMany, hd_TooMany, ha_TooMany, hn_TooMany, ht_TooMany, hm_TooMany⟩, kC_TooMany, tyC_TooMany⟩, mc_TooMany := PySem.W.mg_of X G aC_TooMany,
    xp_TooMany := xp_TooMany,
    C_Endless := C_Endless, xc_Endless := ⟨⟨hg_Endless, hk_Endless, hs_Endless, hd_Endless, ha_Endless, hn_Endless, ht_Endless, hm_Endless⟩, kC_Endless, tyC_Endless⟩, mc_Endless := PySem.W.mg_of X G aC_Endless,
    xp_Endless := xp_Endless,
    C_NoLine := C_NoLine, xc_NoLine := ⟨⟨hg_NoLine, hk_NoLine, hs_NoLine, hd_NoLine, ha_NoLine, hn_NoLine, ht_NoLine, hm_NoLine⟩, kC_NoLine, tyC_NoLine⟩, mc_NoLine := PySem.W.mg_of X G aC_NoLine,
    xp_NoLine := xp_NoLine,
    C_NoHouse := C_NoHouse, xc_NoHouse := ⟨⟨hg_NoHouse, hk_NoHouse, hs_NoHouse, hd_NoHouse, ha_NoHouse, hn_NoHouse, ht_NoHouse, hm_NoHouse⟩, kC_NoHouse, tyC_NoHouse⟩, mc_NoHouse := PySem.W.mg_of X G aC_NoHouse,
    xp_NoHouse := xp_NoHouse,
    f_path_of := f0, d_path_of := _, F_path_of := fun_mk (st := s_path_of) l0 c0 k0, m_path_of := PySem.W.mg_of X G a0,
    f_all_in := f1, d_all_in := _, F_all_in := fun_mk (st := s_all_in) l1 c1 k1, m_all_in := PySem.W.mg_of X G a1,
    f_all_from := f2, d_all_from := _, F_all_from := fun_mk (st := s_all_from) l2 c2 k2, m_all_from := PySem.W.mg_of X G a2,
    f__law_hand := f3, d__law_hand := _, F__law_hand := fun_mk (st := s__law_hand) l3 c3 k3, m__law_hand := PySem.W.mg_of X G a3,
    f__law_pick := f4, d__law_pick := _, F__law_pick := fun_mk (st := s__law_pick) l4 c4 k4, m__law_pick := PySem.W.mg_of X G a4,
    f__law_of := f5, d__law_of := _, F__law_of := fun_mk (st := s__law_of) l5 c5 k5, m__law_of := PySem.W.mg_of X G a5,
    f__law_names := f6, d__law_names := _, F__law_names := fun_mk (st := s__law_names) l6 c6 k6, m__law_names := PySem.W.mg_of X G a6,
    f__law_group := f7, d__law_group := _, F__law_group := fun_mk (st := s__law_group) l7 c7 k7, m__law_group := PySem.W.mg_of X G a7,
    f__law_sizes := f8, d__law_sizes := _, F__law_sizes := fun_mk (st := s__law_sizes) l8 c8 k8, m__law_sizes := PySem.W.mg_of X G a8,
    f__law_plan := f9, d__law_plan := _, F__law_plan := fun_mk (st := s__law_plan) l9 c9 k9, m__law_plan := PySem.W.mg_of X G a9,
    f__law_is_name := f10, d__law_is_name := _, F__law_is_name := fun_mk (st := s__law_is_name) l10 c10 k10, m__law_is_name := PySem.W.mg_of X G a10,
    f__law_all := f11, d__law_all := _, F__law_all := fun_mk (st := s__law_all) l11 c11 k11, m__law_all := PySem.W.mg_of X G a11,
    f__law_marks := f12, d__law_marks := _, F__law_marks := fun_mk (st := s__law_marks) l12 c12 k12, m__law_marks := PySem.W.mg_of X G a12,
    f__law_is_alone := f13, d__law_is_alone := _, F__law_is_alone := fun_mk (st := s__law_is_alone) l13 c13 k13, m__law_is_alone := PySem.W.mg_of X G a13,
    f__law_made_right := f14, d__law_made_right := _, F__law_made_right := fun_mk (st := s__law_made_right) l14 c14 k14, m__law_made_right := PySem.W.mg_of X G a14,
    f__law_near := f15, d__law_near := _, F__law_near := fun_mk (st := s__law_near) l15 c15 k15, m__law_near := PySem.W.mg_of X G a15,
    f__law_right := f16, d__law_right := _, F__law_right := fun_mk (st := s__law_right) l16 c16 k16, m__law_right := PySem.W.mg_of X G a16,
    f_law := fa, d_law := _, F_law := fun_mk (st := s_law) l17 c17 k17, m_law := PySem.W.mg_of X G a17,
    f_NoName___init__ := f18, d_NoName___init__ := _, F_NoName___init__ := fun_mk (st := s_NoName___init__) l18 c18 k18,
    f_NoText___init__ := f19, d_NoText___init__ := _, F_NoText___init__ := fun_mk (st := s_NoText___init__) l19 c19 k19,
    z_ValueError := PySem.W.mg_none_of X G z0,
    z_all := PySem.W.mg_none_of X G z1,
    z_bool := PySem.W.mg_none_of X G z2,
    z_enumerate := PySem.W.mg_none_of X G z3,
    z_int := PySem.W.mg_none_of X G z4,
    z_isinstance := PySem.W.mg_none_of X G z5,
    z_len := PySem.W.mg_none_of X G z6,
    z_range := PySem.W.mg_none_of X G z7,
    z_repr := PySem.W.mg_none_of X G z8,
    z_str := PySem.W.mg_none_of X G z9,
    z_tuple := PySem.W.mg_none_of X G z10,
    sbs := sbs, sbl := sbl, sbv := sbv
    })
end K08
open PySem PySem.W PyProof.Rows
set_option maxRecDepth 100000 in
set_option maxHeartbeats 0 in
theorem PySem.Challenge.cw_nearlocks_k08_names_that_are_not_there_holds : PySem.Challenge.rw_nearlocks_k08_names_that_are_not_there.Holds := by
  w_on; o_law; k_head; (case hw => w_witness2)
  k_fill
  refine NL.walk_y (l := PySem.Challenge.rw_nearlocks_k08_names_that_are_not_there) (n := 63) (k := 33) (x := "_law_script") (sp := K08.spLaw) rfl (by decide) rfl (by decide +kernel) ⟨rfl, by decide, by decide⟩ (fun w h Y => PySem.W.kIn_of Y) ?F ?P
  case P =>
    intro K H a ns hl hy hS
    exact ⟨a, ns, rfl, hS, hl, hy, fun _ => rfl⟩
  case F =>
    intro w mg fa h KX G hmg
    refine' K08.all_mk KX G hmg ?aC_LockError ?hg_LockError ?hk_LockError ?hs_LockError ?hd_LockError ?ha_LockError ?hn_LockError ?ht_LockError ?hm_LockError ?kC_LockError ?tyC_LockError ?xp_LockError ?aC_NoName ?hg_NoName ?hk_NoName ?hs_NoName ?hd_NoName ?ha_NoName ?hn_NoName ?ht_NoName ?hm_NoName ?kC_NoName ?tyC_NoName ?lx_NoName ?rv_NoName ?sa_NoName ?ii_NoName ?ti_NoName ?na_NoName ?aC_NoText ?hg_NoText ?hk_NoText ?hs_NoText ?hd_NoText ?ha_NoText ?hn_NoText ?ht_NoText ?hm_NoText ?kC_NoText ?tyC_NoText ?lx_NoText ?rv_NoText ?sa_NoText ?ii_NoText ?ti_NoText ?na_NoText ?aC_NoPlan ?hg_NoPlan ?hk_NoPlan ?hs_NoPlan ?hd_NoPlan ?ha_NoPlan ?hn_NoPlan ?ht_NoPlan ?hm_NoPlan ?kC_NoPlan ?tyC_NoPlan ?xp_NoPlan ?aC_NoBook ?hg_NoBook ?hk_NoBook ?hs_NoBook ?hd_NoBook ?ha_NoBook ?hn_NoBook ?ht_NoBook ?hm_NoBook ?kC_NoBook ?tyC_NoBook ?xp_NoBook ?aC_NoScript ?hg_NoScript ?hk_NoScript ?hs_NoScript ?hd_NoScript ?ha_NoScript ?hn_NoScript ?ht_NoScript ?hm_NoScript ?kC_NoScript ?tyC_NoScript ?xp_NoScript ?aC_NoBounds ?hg_NoBounds ?hk_NoBounds ?hs_NoBounds ?hd_NoBounds ?ha_NoBounds ?hn_NoBounds ?ht_NoBounds ?hm_NoBounds ?kC_NoBounds ?tyC_NoBounds ?xp_NoBounds ?aC_NotWaiting ?hg_NotWaiting ?hk_NotWaiting ?hs_NotWaiting ?hd_NotWaiting ?ha_NotWaiting ?hn_NotWaiting ?ht_NotWaiting ?hm_NotWaiting ?kC_NotWaiting ?tyC_NotWaiting ?xp_NotWaiting ?aC_Uneven ?hg_Uneven ?hk_Uneven ?hs_Uneven ?hd_Uneven ?ha_Uneven ?hn_Uneven ?ht_Uneven ?hm_Uneven ?kC_Uneven ?tyC_Uneven ?xp_Uneven ?aC_NoStep ?hg_NoStep ?hk_NoStep ?hs_NoStep ?hd_NoStep ?ha_NoStep ?hn_NoStep ?ht_NoStep ?hm_NoStep ?kC_NoStep ?tyC_NoStep ?xp_NoStep ?aC_TooMany ?hg_TooMany ?hk_TooMany ?hs_TooMany ?hd_TooMany ?ha_TooMany ?hn_TooMany ?ht_TooMany ?hm_TooMany ?kC_TooMany ?tyC_TooMany ?xp_TooMany ?aC_Endless ?hg_Endless ?hk_Endless ?hs_Endless ?hd_Endless ?ha_Endless ?hn_Endless ?ht_Endless ?hm_Endless ?kC_Endless ?tyC_Endless ?xp_Endless ?aC_NoLine ?hg_NoLine ?hk_NoLine ?hs_NoLine ?hd_NoLine ?ha_NoLine ?hn_NoLine ?ht_NoLine ?hm_NoLine ?kC_NoLine ?tyC_NoLine ?xp_NoLine ?aC_NoHouse ?hg_NoHouse ?hk_NoHouse ?hs_NoHouse ?hd_NoHouse ?ha_NoHouse ?hn_NoHouse ?ht_NoHouse ?hm_NoHouse ?kC_NoHouse ?tyC_NoHouse ?xp_NoHouse ?a0 ?l0 ?c0 ?k0 ?a1 ?l1 ?c1 ?k1 ?a2 ?l2 ?c2 ?k2 ?a3 ?l3 ?c3 ?k3 ?a4 ?l4 ?c4 ?k4 ?a5 ?l5 ?c5 ?k5 ?a6 ?l6 ?c6 ?k6 ?a7 ?l7 ?c7 ?k7 ?a8 ?l8 ?c8 ?k8 ?a9 ?l9 ?c9 ?k9 ?a10 ?l10 ?c10 ?k10 ?a11 ?l11 ?c11 ?k11 ?a12 ?l12 ?c12 ?k12 ?a13 ?l13 ?c13 ?k13 ?a14 ?l14 ?c14 ?k14 ?a15 ?l15 ?c15 ?k15 ?a16 ?l16 ?c16 ?k16 ?a17 ?l17 ?c17 ?k17 ?l18 ?c18 ?k18 ?l19 ?c19 ?k19 ?z0 ?z1 ?z2 ?z3 ?z4 ?z5 ?z6 ?z7 ?z8 ?z9 ?z10 ?sbs ?sbl ?sbv
    (case aC_LockError => k_is); (case hg_LockError => k_is); (case hk_LockError => k_is); (case hs_LockError => k_is); (case hd_LockError => k_is); (case ha_LockError => k_is); (case hn_LockError => k_is); (case ht_LockError => k_is); (case hm_LockError => k_is); (case kC_LockError => k_is); (case tyC_LockError => k_is); (case xp_LockError => k_exc)
    (case aC_NoName => k_is); (case hg_NoName => k_is); (case hk_NoName => k_is); (case hs_NoName => k_is); (case hd_NoName => k_is); (case ha_NoName => k_is); (case hn_NoName => k_is); (case ht_NoName => k_is); (case hm_NoName => k_is); (case kC_NoName => k_is); (case tyC_NoName => k_is); (case lx_NoName => k_is); (case rv_NoName => decide +kernel); (case sa_NoName => k_is); (case ii_NoName => k_is); (case ti_NoName => k_is); (case na_NoName => k_is)
    (case aC_NoText => k_is); (case hg_NoText => k_is); (case hk_NoText => k_is); (case hs_NoText => k_is); (case hd_NoText => k_is); (case ha_NoText => k_is); (case hn_NoText => k_is); (case ht_NoText => k_is); (case hm_NoText => k_is); (case kC_NoText => k_is); (case tyC_NoText => k_is); (case lx_NoText => k_is); (case rv_NoText => decide +kernel); (case sa_NoText => k_is); (case ii_NoText => k_is); (case ti_NoText => k_is); (case na_NoText => k_is)
    (case aC_NoPlan => k_is); (case hg_NoPlan => k_is); (case hk_NoPlan => k_is); (case hs_NoPlan => k_is); (case hd_NoPlan => k_is); (case ha_NoPlan => k_is); (case hn_NoPlan => k_is); (case ht_NoPlan => k_is); (case hm_NoPlan => k_is); (case kC_NoPlan => k_is); (case tyC_NoPlan => k_is); (case xp_NoPlan => k_exc)
    (case aC_NoBook => k_is); (case hg_NoBook => k_is); (case hk_NoBook => k_is); (case hs_NoBook => k_is); (case hd_NoBook => k_is); (case ha_NoBook => k_is); (case hn_NoBook => k_is); (case ht_NoBook => k_is); (case hm_NoBook => k_is); (case kC_NoBook => k_is); (case tyC_NoBook => k_is); (case xp_NoBook => k_exc)
    (case aC_NoScript => k_is); (case hg_NoScript => k_is); (case hk_NoScript => k_is); (case hs_NoScript => k_is); (case hd_NoScript => k_is); (case ha_NoScript => k_is); (case hn_NoScript => k_is); (case ht_NoScript => k_is); (case hm_NoScript => k_is); (case kC_NoScript => k_is); (case tyC_NoScript => k_is); (case xp_NoScript => k_exc)
    (case aC_NoBounds => k_is); (case hg_NoBounds => k_is); (case hk_NoBounds => k_is); (case hs_NoBounds => k_is); (case hd_NoBounds => k_is); (case ha_NoBounds => k_is); (case hn_NoBounds => k_is); (case ht_NoBounds => k_is); (case hm_NoBounds => k_is); (case kC_NoBounds => k_is); (case tyC_NoBounds => k_is); (case xp_NoBounds => k_exc)
    (case aC_NotWaiting => k_is); (case hg_NotWaiting => k_is); (case hk_NotWaiting => k_is); (case hs_NotWaiting => k_is); (case hd_NotWaiting => k_is); (case ha_NotWaiting => k_is); (case hn_NotWaiting => k_is); (case ht_NotWaiting => k_is); (case hm_NotWaiting => k_is); (case kC_NotWaiting => k_is); (case tyC_NotWaiting => k_is); (case xp_NotWaiting => k_exc)
    (case aC_Uneven => k_is); (case hg_Uneven => k_is); (case hk_Uneven => k_is); (case hs_Uneven => k_is); (case hd_Uneven => k_is); (case ha_Uneven => k_is); (case hn_Uneven => k_is); (case ht_Uneven => k_is); (case hm_Uneven => k_is); (case kC_Uneven => k_is); (case tyC_Uneven => k_is); (case xp_Uneven => k_exc)
    (case aC_NoStep => k_is); (case hg_NoStep => k_is); (case hk_NoStep => k_is); (case hs_NoStep => k_is); (case hd_NoStep => k_is); (case ha_NoStep => k_is); (case hn_NoStep => k_is); (case ht_NoStep => k_is); (case hm_NoStep => k_is); (case kC_NoStep => k_is); (case tyC_NoStep => k_is); (case xp_NoStep => k_exc)
    (case aC_TooMany => k_is); (case hg_TooMany => k_is); (case hk_TooMany => k_is); (case hs_TooMany => k_is); (case hd_TooMany => k_is); (case ha_TooMany => k_is); (case hn_TooMany => k_is); (case ht_TooMany => k_is); (case hm_TooMany => k_is); (case kC_TooMany => k_is); (case tyC_TooMany => k_is); (case xp_TooMany => k_exc)
    (case aC_Endless => k_is); (case hg_Endless => k_is); (case hk_Endless => k_is); (case hs_Endless => k_is); (case hd_Endless => k_is); (case ha_Endless => k_is); (case hn_Endless => k_is); (case ht_Endless => k_is); (case hm_Endless => k_is); (case kC_Endless => k_is); (case tyC_Endless => k_is); (case xp_Endless => k_exc)
    (case aC_NoLine => k_is); (case hg_NoLine => k_is); (case hk_NoLine => k_is); (case hs_NoLine => k_is); (case hd_NoLine => k_is); (case ha_NoLine => k_is); (case hn_NoLine => k_is); (case ht_NoLine => k_is); (case hm_NoLine => k_is); (case kC_NoLine => k_is); (case tyC_NoLine => k_is); (case xp_NoLine => k_exc)
    (case aC_NoHouse => k_is); (case hg_NoHouse => k_is); (case hk_NoHouse => k_is); (case hs_NoHouse => k_is); (case hd_NoHouse => k_is); (case ha_NoHouse => k_is); (case hn_NoHouse => k_is); (case ht_NoHouse => k_is); (case hm_NoHouse => k_is); (case kC_NoHouse => k_is); (case tyC_NoHouse => k_is); (case xp_NoHouse => k_exc)
    (case a0 => k_is); (case l0 => k_is); (case c0 => k_is); (case k0 => k_is)
    (case a1 => k_is); (case l1 => k_is); (case c1 => k_is); (case k1 => k_is)
    (case a2 => k_is); (case l2 => k_is); (case c2 => k_is); (case k2 => k_is)
    (case a3 => k_is); (case l3 => k_is); (case c3 => k_is); (case k3 => k_is)
    (case a4 => k_is); (case l4 => k_is); (case c4 => k_is); (case k4 => k_is)
    (case a5 => k_is); (case l5 => k_is); (case c5 => k_is); (case k5 => k_is)
    (case a6 => k_is); (case l6 => k_is); (case c6 => k_is); (case k6 => k_is)
    (case a7 => k_is); (case l7 => k_is); (case c7 => k_is); (case k7 => k_is)
    (case a8 => k_is); (case l8 => k_is); (case c8 => k_is); (case k8 => k_is)
    (case a9 => k_is); (case l9 => k_is); (case c9 => k_is); (case k9 => k_is)
    (case a10 => k_is); (case l10 => k_is); (case c10 => k_is); (case k10 => k_is)
    (case a11 => k_is); (case l11 => k_is); (case c11 => k_is); (case k11 => k_is)
    (case a12 => k_is); (case l12 => k_is); (case c12 => k_is); (case k12 => k_is)
    (case a13 => k_is); (case l13 => k_is); (case c13 => k_is); (case k13 => k_is)
    (case a14 => k_is); (case l14 => k_is); (case c14 => k_is); (case k14 => k_is)
    (case a15 => k_is); (case l15 => k_is); (case c15 => k_is); (case k15 => k_is)
    (case a16 => k_is); (case l16 => k_is); (case c16 => k_is); (case k16 => k_is)
    (case a17 => k_is); (case l17 => k_is); (case c17 => k_is); (case k17 => k_is)
    (case l18 => k_is); (case c18 => k_is); (case k18 => k_is)
    (case l19 => k_is); (case c19 => k_is); (case k19 => k_is)
    (case z0 => k_is)
    (case z1 => k_is)
    (case z2 => k_is)
    (case z3 => k_is)
    (case z4 => k_is)
    (case z5 => k_is)
    (case z6 => k_is)
    (case z7 => k_is)
    (case z8 => k_is)
    (case z9 => k_is)
    (case z10 => k_is)
    (case sbs => kernel_rfl); (case sbl => kernel_rfl); (case sbv => kernel_rfl)

