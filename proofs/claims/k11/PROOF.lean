import PyProof.Rows.All
import Wide.All
import OpenK.AllK
import Wide.FinOn
import HandS.CallLocal
import HandS.DictComp
import HandS.Evl
import HandS.ForMost
import HandS.IsInst
import HandS.More
import HandS.Star
import HandS.Strs
import HandS.Style
import HandS.TupAny
import HandS.Walk
import HandS.WrittenGet
import HandS.Zip
import KE.GoesMore
import KE.KDictZip
import PySem.Challenge.RW_nearlocks_k11_how_a_house_begins
set_option Elab.async false
set_option linter.all false
set_option maxRecDepth 100000
set_option maxHeartbeats 4000000
/-! the ground: data of the heap, their kinds, what stays -/
namespace NL
open PySem L2 Evl

mutual
theorem dp_of {K : PySem.W.Frag} {H H' : Hp} (el : ∀ a xs, SqL K H a xs → SqL K H' a xs) (et : ∀ a xs, SqT K H a xs → SqT K H' a xs) : ∀ (d : PyData) (v : V), Dp K H v d → Dp K H' v d
  | .none, _, h => by cases h; exact .non
  | .bool b, _, h => by cases h; exact .bl b
  | .int i, _, h => by cases h; exact .int i
  | .str x, _, h => by cases h; exact .str x
  | .list ds, _, h => by
    cases h with
    | lst hs ha => exact .lst (el _ _ hs) (dpa_of el et ds _ ha)
  | .tuple ds, _, h => by
    cases h with
    | tup hs ha => exact .tup (et _ _ hs) (dpa_of el et ds _ ha)
  | .dict _, _, h => by cases h
theorem dpa_of {K : PySem.W.Frag} {H H' : Hp} (el : ∀ a xs, SqL K H a xs → SqL K H' a xs) (et : ∀ a xs, SqT K H a xs → SqT K H' a xs) : ∀ (ds : List PyData) (vs : List V), DpAll K H vs ds → DpAll K H' vs ds
  | [], _, h => by cases h; exact .nil
  | d :: ds, _, h => by
    cases h with
    | cons h1 h2 => exact .cons (dp_of el et d _ h1) (dpa_of el et ds _ h2)
end
theorem dp_mono {K : PySem.W.Frag} {H H' : Hp} {v : V} {d : PyData} (e : Ex H H') (h : Dp K H v d) : Dp K H' v d := dp_of (fun _ _ => ex_l e) (fun _ _ => ex_t e) d v h
theorem dpa_mono {K : PySem.W.Frag} {H H' : Hp} {vs : List V} {ds : List PyData} (e : Ex H H') (h : DpAll K H vs ds) : DpAll K H' vs ds := dpa_of (fun _ _ => ex_l e) (fun _ _ => ex_t e) ds vs h
theorem dpa_len {K : PySem.W.Frag} {H : Hp} : ∀ {vs : List V} {ds : List PyData}, DpAll K H vs ds → vs.length = ds.length
  | _, _, .nil => rfl
  | _, _, .cons _ t => by rw [List.length_cons, List.length_cons, dpa_len t]
theorem dpa_get {K : PySem.W.Frag} {H : Hp} : ∀ {vs : List V} {ds : List PyData} {i : Nat} {v : V}, DpAll K H vs ds → vs[i]? = some v → ∃ d, ds[i]? = some d ∧ Dp K H v d
  | _, _, _, _, .nil, e => by simp at e
  | _, _, 0, _, .cons r _, e => by simp at e; subst e; exact ⟨_, rfl, r⟩
  | _, _, i + 1, v, .cons _ t, e => by
    obtain ⟨d, h1, h2⟩ := dpa_get (i := i) (v := v) t (by simpa using e)
    exact ⟨d, by simpa using h1, h2⟩

/-! ### kinds -/
def tyN : PyData → String
  | .none => "NoneType" | .bool _ => "bool" | .int _ => "int" | .str _ => "str" | .list _ => "list" | .tuple _ => "tuple" | .dict _ => "dict"
theorem dp_ty {K : PySem.W.Frag} {H : Hp} {v : V} {d : PyData} (h : Dp K H v d) : TyX K H v (.type (tyN d)) := by
  cases h with
  | non => exact .base .non
  | bl b => exact .base (.bl b)
  | int i => exact .base (.int i)
  | str x => exact .base (.str x)
  | lst hs _ =>
    rcases hs with (h | ⟨o, h⟩) | ⟨o, its, n, h, c, _⟩
    · exact .base (.lst h)
    · exact .base (.frz h)
    · exact .kList h c
  | tup hs _ =>
    rcases hs with (h | ⟨o, h⟩) | ⟨o, its, n, h, c, _⟩
    · exact .base (.tup h)
    · exact .fTuple h
    · exact .kTuple h c
def isIntB : PyData → Bool
  | .int _ => true | .bool _ => true | _ => false
def isBoolB : PyData → Bool
  | .bool _ => true | _ => false
def isTupB : PyData → Bool
  | .tuple _ => true | _ => false
def isStrB : PyData → Bool
  | .str _ => true | _ => false
theorem kt_int (d : PyData) : kitB (tyN d) "int" = some (isIntB d) := by
  cases d
  · exact (by decide +kernel : kitB "NoneType" "int" = some false)
  · exact (by decide +kernel : kitB "bool" "int" = some true)
  · exact (by decide +kernel : kitB "int" "int" = some true)
  · exact (by decide +kernel : kitB "str" "int" = some false)
  · exact (by decide +kernel : kitB "list" "int" = some false)
  · exact (by decide +kernel : kitB "tuple" "int" = some false)
  · exact (by decide +kernel : kitB "dict" "int" = some false)
theorem kt_bool (d : PyData) : kitB (tyN d) "bool" = some (isBoolB d) := by
  cases d
  · exact (by decide +kernel : kitB "NoneType" "bool" = some false)
  · exact (by decide +kernel : kitB "bool" "bool" = some true)
  · exact (by decide +kernel : kitB "int" "bool" = some false)
  · exact (by decide +kernel : kitB "str" "bool" = some false)
  · exact (by decide +kernel : kitB "list" "bool" = some false)
  · exact (by decide +kernel : kitB "tuple" "bool" = some false)
  · exact (by decide +kernel : kitB "dict" "bool" = some false)
theorem kt_tuple (d : PyData) : kitB (tyN d) "tuple" = some (isTupB d) := by
  cases d
  · exact (by decide +kernel : kitB "NoneType" "tuple" = some false)
  · exact (by decide +kernel : kitB "bool" "tuple" = some false)
  · exact (by decide +kernel : kitB "int" "tuple" = some false)
  · exact (by decide +kernel : kitB "str" "tuple" = some false)
  · exact (by decide +kernel : kitB "list" "tuple" = some false)
  · exact (by decide +kernel : kitB "tuple" "tuple" = some true)
  · exact (by decide +kernel : kitB "dict" "tuple" = some false)
theorem kt_str (d : PyData) : kitB (tyN d) "str" = some (isStrB d) := by
  cases d
  · exact (by decide +kernel : kitB "NoneType" "str" = some false)
  · exact (by decide +kernel : kitB "bool" "str" = some false)
  · exact (by decide +kernel : kitB "int" "str" = some false)
  · exact (by decide +kernel : kitB "str" "str" = some true)
  · exact (by decide +kernel : kitB "list" "str" = some false)
  · exact (by decide +kernel : kitB "tuple" "str" = some false)
  · exact (by decide +kernel : kitB "dict" "str" = some false)

section
variable {K : PySem.W.Frag} {σ : L2.St} {H : Hp} {ta tb te : TE} {x v : V} {d : PyData}
theorem ev_isi {T : String} {b : Bool} (ha : Ev ta σ H x) (hd : Dp K H x d) (hk : kitB (tyN d) T = some b) : Ev (tCB (rIsi K) (tCons ta (tCons (tC (.ty T)) tNil))) σ H (.bl b) := fun H1 e Q q =>
  ha H1 e _ fun H2 e2 => ⟨x, .ty T, _, _, b, rfl, .ty T, dp_ty (dp_mono (e.trans e2) hd), kit_ty hk, q H2 e2⟩
theorem ev_lenT {p : Addr} {xs : List V} (ha : Ev ta σ H (.ref p)) (h : SqT K H p xs) : Ev (tCB (rLenS K) (tCons ta tNil)) σ H (.int (xs.length : Int)) := fun H1 e Q q =>
  ha H1 e _ fun H2 e2 => ⟨p, xs, rfl, Or.inr (ex_t (e.trans e2) h), q H2 e2⟩
theorem ev_ixT {p : Addr} {xs : List V} {i : Int} (ha : Ev ta σ H (.ref p)) (hb : Ev tb σ H (.int i)) (h : SqT K H p xs) (hi : atI xs i = some v) : Ev (tOp (rIxT K) ta tb) σ H v := ev_op ha hb (rv_ixT h hi)
theorem ev_isN (ha : Ev ta σ H x) : Ev (tIsN ta) σ H (.bl (decide (x = .non))) := fun H1 e Q q => ha H1 e _ fun H2 e2 => q H2 e2
theorem ev_eq {y : V} (ha : Ev ta σ H x) (hb : Ev tb σ H y) (h : scal x y = true) : Ev (tOp rEq ta tb) σ H (.bl (decide (x = y))) := ev_op ha hb (rv_eq h)
theorem ev_ne {y : V} (ha : Ev ta σ H x) (hb : Ev tb σ H y) (h : scal x y = true) : Ev (tOp rNe ta tb) σ H (.bl (!decide (x = y))) := ev_op ha hb (rv_ne h)
theorem ev_I0 {g : Int → Int → V} {i j : Int} (ha : Ev ta σ H (.int i)) (hb : Ev tb σ H (.int j)) : Ev (tOp (rI0 g) ta tb) σ H (g i j) := ev_op ha hb rv_I0
theorem ev_I {C : Int → Int → Prop} {g : Int → Int → V} {i j : Int} (hc : C i j) (ha : Ev ta σ H (.int i)) (hb : Ev tb σ H (.int j)) : Ev (tOp (rI C g) ta tb) σ H (g i j) := ev_op ha hb (rv_I hc)
theorem ev_allN {bs : List Bool} (ha : EvL ta σ H (bs.map V.bl)) : Ev (tCB (rAll K) (tCons ta tNil)) σ H (.bl (bs.all id)) := fun H1 e Q q =>
  ha H1 e _ fun p H2 _ e2 h2 => ⟨p, bs, rfl, sq_of h2, q H2 e2⟩
/-- a comprehension over a tuple, whose turns give or skip as told -/
theorem el_lcT {a : Addr} {xs : List V} {tl : TE} {tt : TT} {j : Nat} {vs : List Nat} (f : Nat → Bool) (g : Nat → V) (src : Ev tl σ H (.ref a)) (held : SqT K H a xs) (few : xs.length ≤ 40000) (clean : ∀ x, wipe ((wipe σ vs).set j (some x)) vs = wipe σ vs)
    (test : ∀ (i : Nat) (x : V) H1, Ex H H1 → xs[i]? = some x → EvT tt ((wipe σ vs).set j (some x)) H1 (f i)) (give : ∀ (i : Nat) (x : V) H1, Ex H H1 → xs[i]? = some x → f i = true → Ev te ((wipe σ vs).set j (some x)) H1 (g i)) :
    EvL (tLc (iTup K tl) (gName j) tt te vs) σ H (given xs.length f g) := by
  intro H0 e0 Q next
  refine src H0 e0 _ fun H1 e1 => ?_
  have e01 : Ex H H1 := e0.trans e1
  refine ⟨a, rfl, ⟨xs, ex_t e01 held⟩, fun made fresh => ?_⟩
  refine lc_tup (xs := xs) (Cw H1 f g made) ⟨fresh, Ex.new fresh, upd_same⟩ ?stays ?turn ?done
  case stays =>
    intro i H' _ inv
    exact ex_t (e01.trans inv.2.1) held
  case turn =>
    intro i x H' at_i inv
    have small : i < 50000 := by
      have := (List.getElem?_eq_some_iff.mp at_i).1
      omega
    exact ⟨clean x, cw_turn inv small (test i x H1 e01 at_i) (give i x H1 e01 at_i)⟩
  case done =>
    intro H' inv
    exact next made H' (fresh_back e1 inv.1) (e1.trans inv.2.1) inv.2.2
end
theorem s_next {D : Ends} {σ : L2.St} {H : Hp} (h : D.nx σ H) : tNext D σ H := h
theorem s_seq {D : Ends} {t u : TS} {σ : L2.St} {H : Hp} (h : t { D with nx := u D } σ H) : tSeq t u D σ H := h
theorem q_asgP {te : TE} {tz : TS} {D : Ends} {σ : L2.St} {H : Hp} {i : Nat} (h : te σ H fun v H1 => tz D (σ.set i (some v)) H1) : tSeq (tAsg te (gName i)) tz D σ H := h
theorem s_retP {te : TE} {D : Ends} {σ : L2.St} {H : Hp} (h : te σ H fun v H1 => D.rt v H1) : tRet te D σ H := h
theorem q_dropP {te : TE} {tz : TS} {D : Ends} {σ : L2.St} {H : Hp} (h : te σ H fun v H1 => tz D σ H1) : tSeq (tDrop te) tz D σ H := h
theorem et_yes {σ : L2.St} {H : Hp} : EvT tYes σ H true := fun H1 _ _ q => q H1 (Ex.refl H1)
theorem given_all (n : Nat) (g : Nat → V) : given n (fun _ => true) g = (List.range n).map g := by
  unfold given
  rw [List.filter_eq_self.mpr (fun _ _ => rfl)]

/-! ### arguments without a star, whatever the scope -/
def noStar : Expr → Bool
  | .Starred _ _ => false
  | _ => true
theorem star1 {e : Expr} {es : List Expr} {env : Env} (h : noStar e = true) : starEach (e :: es) env = (false, eval e env) :: starEach es env := by
  cases e <;> first | rfl | cases h
theorem starAll {pos : Pos} {env : Env} : ∀ {es : List Expr}, es.all noStar = true → (backTo pos (starEach es env)).any (·.1) = false
  | [], _ => rfl
  | e :: es, h => by
    rw [List.all_cons, Bool.and_eq_true] at h
    rw [star1 h.1]
    have := starAll (pos := pos) (env := env) h.2
    unfold backTo at this ⊢
    simpa using this
/-! ### rules by a written part that is named -/
section
variable {X : Cx} {K : PySem.W.Frag}
theorem lenK (h : X.K = K) : CallR X (.builtin "len") (rLenS K) := by subst h; exact call_len_seq
theorem isiK (h : X.K = K) : CallR X (.builtin "isinstance") (rIsi K) := by subst h; exact call_isi
theorem allK (h : X.K = K) (hc : X.calm = true) : CallR X (.builtin "all") (rAll K) := by subst h; exact cr_all hc
theorem ixTK (h : X.K = K) : IxR X (rIxT K) := by subst h; exact ix_tup
theorem ixLK (h : X.K = K) : IxR X (rIxL K) := by subst h; exact ix_list
theorem catAK (h : X.K = K) : OpR X (binaryOp .Add) (rCatA K) := by subst h; exact op_catA
theorem slAK (h : X.K = K) : SlR X (rSlA K) := by subst h; exact sl_tupA
theorem eqDK (h : X.K = K) (hu : X.A.units + 64 < cLine) : OpR X (compareOp .Eq) (rEqD K) := by subst h; exact op_eqD hu
theorem neDK (h : X.K = K) (hu : X.A.units + 64 < cLine) : OpR X (compareOp .NotEq) (rNeD K) := by subst h; exact op_neD hu
end

/-! ### a dict of the module, asked by any text -/
def KTab (K : PySem.W.Frag) (w : World) (a : Addr) (f : Str → Option Value) : Prop :=
  ∃ es n, K.lookup a = some ⟨.type "dict", none, .dict es n, #[]⟩ ∧ PySem.W.KeysLit w.params es.toList ∧ (a == sysModules) = false ∧ ∀ z, PySem.W.nsIn K a z = some (f z)
def rNotInK (K : PySem.W.Frag) (w : World) : R2 := fun x y H Q => ∃ p z f, x = .str z ∧ y = .ref p ∧ KTab K w p f ∧ Q (.bl (!(f z).isSome)) H
section
variable {X : Cx}
theorem op_notInK : OpR X (compareOp .NotIn) (rNotInK X.K X.w) := by
  intro pins s σ H x y v u Q I rx ry h
  obtain ⟨p, z, f, rfl, rfl, ⟨es, n, hl, hk, low, hf⟩, q⟩ := h
  obtain rfl : u = Value.ref p := ry
  obtain ⟨t, rfl⟩ := rx
  have hm := PySem.W.mapOf_K (prog := X.prog) (w := X.w) I.kIn hl hk
  refine wpAny_notIn_of (strKind_is X.prog X.w z t) low hm ?_
  rw [PySem.W.find_K hl (hf z)]
  exact ⟨.bl _, H, I.tok _, rfl, q⟩
end
theorem rv_ixD {K : PySem.W.Frag} {w : World} {H : Hp} {p : Addr} {z : Str} {f : Str → Option Value} {a : Addr} (h : KTab K w p f) (e : f z = some (.ref a)) : RV (rIxD K w) (.ref p) (.str z) H (.ref a) := fun H1 _ _ q => by
  obtain ⟨es, n, hl, hk, _, hf⟩ := h
  exact ⟨p, z, .ref a, rfl, rfl, ⟨es, n, .ref a, hl, hk, by rw [hf z, e], rfl⟩, q H1 (Ex.refl H1)⟩
theorem rv_notInK {K : PySem.W.Frag} {w : World} {H : Hp} {p : Addr} {z : Str} {f : Str → Option Value} (h : KTab K w p f) : RV (rNotInK K w) (.str z) (.ref p) H (.bl (!(f z).isSome)) := fun H1 _ _ q => ⟨p, z, f, rfl, rfl, h, q H1 (Ex.refl H1)⟩
end NL

/-! the drawing hand: a list of a list of cells and a seed; what stays while it draws -/
namespace NL
open PySem L2 Evl
structure HandAt (H : Hp) (h l : Addr) (cs : List Int) (sd : Int) : Prop where
  hh : H h = some (.lst [.ref l, .int sd])
  hl : H l = some (.lst (cs.map V.int))
  lo : 0 ≤ sd
  hi : sd < 2305843009213693951
  few : cs.length ≤ 63
  pos : ∀ c ∈ cs, 0 ≤ c
def Hand (H : Hp) (h l : Addr) : Prop := ∃ cs sd, HandAt H h l cs sd
def Kp (h l : Addr) (H H' : Hp) : Prop := ∀ a o, a ≠ h → a ≠ l → H a = some o → H' a = some o
theorem Kp.refl (h l : Addr) (H : Hp) : Kp h l H H := fun _ _ _ _ e => e
theorem Kp.trans {h l : Addr} {H H1 H2 : Hp} (a : Kp h l H H1) (b : Kp h l H1 H2) : Kp h l H H2 := fun x o n m e => b x o n m (a x o n m e)
theorem Kp.ex {h l : Addr} {H H1 : Hp} (a : Ex H H1) : Kp h l H H1 := fun x o _ _ e => a x o e
theorem Kp.put {h l : Addr} {H H1 : Hp} {o : HO} {a : Addr} (k : Kp h l H H1) (ha : a = h ∨ a = l) : Kp h l H (upd H1 a o) := fun x u n m e => by
  have hx : x ≠ a := by rcases ha with rfl | rfl <;> assumption
  rw [upd_ne hx]
  exact k x u n m e
theorem HandAt.ne {H : Hp} {h l : Addr} {cs : List Int} {sd : Int} (A : HandAt H h l cs sd) : h ≠ l := by
  intro e
  subst e
  have e2 := A.hh.symm.trans A.hl
  cases cs with
  | nil => cases e2
  | cons c r => cases e2
theorem Hand.ne {H : Hp} {h l : Addr} (A : Hand H h l) : h ≠ l := by
  obtain ⟨cs, sd, A⟩ := A
  exact A.ne
theorem HandAt.ex {H H' : Hp} {h l : Addr} {cs : List Int} {sd : Int} (A : HandAt H h l cs sd) (e : Ex H H') : HandAt H' h l cs sd := ⟨e _ _ A.hh, e _ _ A.hl, A.lo, A.hi, A.few, A.pos⟩
theorem Hand.ex {H H' : Hp} {h l : Addr} (A : Hand H h l) (e : Ex H H') : Hand H' h l := by
  obtain ⟨cs, sd, A⟩ := A
  exact ⟨cs, sd, A.ex e⟩
theorem Hand.fresh {H : Hp} {h l p : Addr} (A : Hand H h l) (n : H p = none) : p ≠ h ∧ p ≠ l := by
  obtain ⟨cs, sd, A⟩ := A
  constructor
  · intro e
    subst e
    rw [A.hh] at n
    cases n
  · intro e
    subst e
    rw [A.hl] at n
    cases n
theorem Hand.off {H : Hp} {h l p : Addr} {o : HO} (A : Hand H h l) (n : H p = some o) (no : ∀ xs, o ≠ .lst xs) : p ≠ h ∧ p ≠ l := by
  obtain ⟨cs, sd, A⟩ := A
  constructor
  · intro e
    subst e
    rw [A.hh] at n
    cases n
    exact no _ rfl
  · intro e
    subst e
    rw [A.hl] at n
    cases n
    exact no _ rfl
theorem kp_tup {H H' : Hp} {h l a : Addr} {xs : List V} (A : Hand H h l) (k : Kp h l H H') (e : H a = some (.tup xs)) : H' a = some (.tup xs) := by
  obtain ⟨n, m⟩ := A.off e (fun _ z => by cases z)
  exact k a _ n m e
/-- what is new lies beside the hand -/
theorem Hand.new {H : Hp} {h l p : Addr} {o : HO} (A : Hand H h l) (n : H p = none) : Hand (upd H p o) h l := A.ex (Ex.new n)
theorem Hand.upd {H : Hp} {h l p : Addr} {o : HO} (A : Hand H h l) (n : p ≠ h) (m : p ≠ l) : Hand (upd H p o) h l := by
  obtain ⟨cs, sd, A⟩ := A
  exact ⟨cs, sd, by rw [upd_ne (Ne.symm n)]; exact A.hh, by rw [upd_ne (Ne.symm m)]; exact A.hl, A.lo, A.hi, A.few, A.pos⟩

/-! ### lists of ints compared with [] -/
theorem dpa_ints {K : PySem.W.Frag} {H : Hp} : ∀ ns : List Int, DpAll K H (ns.map V.int) (ns.map PyData.int)
  | [] => .nil
  | n :: r => .cons (.int n) (dpa_ints r)
theorem lay_ints : ∀ ns : List Int, PyData.canLayAll0 (ns.map PyData.int) = true
  | [] => by simp [PyData.canLayAll0]
  | n :: r => by simp [PyData.canLayAll0, PyData.canLay0, lay_ints r]
theorem deep_ints : ∀ ns : List Int, PyData.depthAll (ns.map PyData.int) = 0
  | [] => by simp [PyData.depthAll]
  | n :: r => by simp [PyData.depthAll, PyData.depth, deep_ints r]
theorem shaped_ints (ns : List Int) : SeqAt.shaped (.list (ns.map PyData.int)) = true := by
  unfold SeqAt.shaped
  simp [PyData.canLay0, lay_ints, PyData.depth, deep_ints]
theorem eqv_nil (ds : List PyData) : PyData.eqvAll ds [] = ds.isEmpty := by
  cases ds <;> simp [PyData.eqvAll]
theorem ev_neNil {K : PySem.W.Frag} {σ : L2.St} {H : Hp} {ta : TE} {l : Addr} {cs : List Int} (ha : Ev ta σ H (.ref l)) (hl : H l = some (.lst (cs.map V.int))) : Ev (tOp (rNeD K) ta (tLst tNil)) σ H (.bl (!cs.isEmpty)) :=
  ev_opL (xs := []) ha (el_lst ea_nil (by decide)) fun p H1 hp e1 H2 e2 Q q => ⟨.list (cs.map PyData.int), .list [], .lst (sq_of (e2 _ _ (e1 _ _ hl))) (dpa_ints cs), .lst (sq_of (e2 _ _ hp)) .nil, shaped_ints cs, by decide +kernel, by
    have e : PyData.eqv (.list (cs.map PyData.int)) (.list []) = cs.isEmpty := by
      simp only [PyData.eqv, eqv_nil]
      cases cs <;> rfl
    rw [e]
    exact q H2 (Ex.refl H2)⟩

/-! ### slices of a list of ints, from its front -/
theorem el_cut {K : PySem.W.Frag} {σ : L2.St} {H : Hp} {ta : TE} {a : Addr} {xs : List V} {n : Int} (ha : Ev ta σ H (.ref a)) (hs : SqL K H a xs) : EvL (tSl (rSlL K) ta tNoPart (tPart (tC (.int n)))) σ H (cutV xs none (some n)) := fun H1 e Q q =>
  ha H1 e _ fun H2 e2 => ⟨n, rfl, a, xs, rfl, ex_l (e.trans e2) hs, fun p hp => q p _ (fresh_back e2 hp) (e2.trans (Ex.new hp)) upd_same⟩
theorem cut_ints (ns : List Int) (n : Int) : ∃ ms : List Int, cutV (ns.map V.int) none (some n) = ms.map V.int ∧ ms.length ≤ ns.length := by
  refine ⟨(ns.drop (HT.sIx (ns.map V.int).length 0 none)).take (HT.sIx (ns.map V.int).length (ns.map V.int).length (some n) - HT.sIx (ns.map V.int).length 0 none), ?_, ?_⟩
  · unfold cutV
    rw [List.map_take, List.map_drop]
  · rw [List.length_take, List.length_drop]
    omega
end NL

/-! defs that are called where no text of a heap's thing is being made: what repr asks for -/
namespace NL
open PySem PySem.Spec PyProof.Rows L2 Evl
/-- the promise of a def, kept wherever no repr is under way -/
structure FnG (P : Program) (w : World) (K : PySem.W.Frag) (mg : Str → Option Value) (base : Heap) (k : Nat) (f : Addr) (fd : FuncData) (ps : List Str) (sp : Sp) : Prop where
  arity : ∀ xs H Q E, sp xs H Q E → xs.length = ps.length
  go : ∀ (A : Around) (envs : List Env) (st : Shared) (H : Hp) (ar : Args) (vals : List Value) (xs : List V) (Q : VK) (E : XK), A.guards = some [] → Room k A → Env0 P w K mg base A envs st H → BindsTo st fd ar (ps.zip vals) → Vals xs vals → sp xs H Q E →
    codeAny (model P w) A (.call (.ref f) ar) (CR CX0 envs P w H st Q E) st
section
variable {P : Program} {w : World} {K : PySem.W.Frag} {mg : Str → Option Value} {base : Heap} {k : Nat} {f : Addr} {fd : FuncData} {ps : List Str} {sp : Sp}
theorem FnG.of (F : FnOk P w K mg base CX0 k f fd ps sp) : FnG P w K mg base k f fd ps sp := ⟨F.len, fun A envs st H ar vals xs Q E _ room => F.run A envs st H ar vals xs Q E room⟩
theorem FnG.up {j : Nat} (F : FnG P w K mg base k f fd ps sp) (h : k ≤ j) : FnG P w K mg base j f fd ps sp := ⟨F.arity, fun A envs st H ar vals xs Q E g room => F.go A envs st H ar vals xs Q E g (room.mono h)⟩
/-- a def of the text, by its body -/
theorem fun_g {x qual : Str} {st : Stmt} {N : List Str} (F : Fun K x qual st f fd) (S : FnScope N ps (defScope st)) (arity : ∀ xs H Q E, sp xs H Q E → xs.length = ps.length)
    (body : ∀ (cdv : Value) (A : Around) (outer : List Env) (s : Shared) (H : Hp) (vs : List V) (Q : VK) (E : XK), A.guards = some [] → Room k (A.deeper (PyProof.Rows.envOfC qual (defScope st) s.heap.objs.size f cdv)) → sp vs H Q E →
      ∃ t, PSs (cxOf CX0 P w K mg base N qual (defScope st) f cdv A outer s H E).nox (defBody st) t ∧ t { nx := fun _ H' => Q .non H', rt := Q } (start N vs) H) : FnG P w K mg base (k + 1) f fd ps sp := by
  obtain ⟨oc, od, kV, doc, pm, an, cdv, ct, osl, hfd, look, code⟩ := F.ex
  subst hfd
  constructor
  · exact arity
  intro A envs s H ar vals xs Q E quiet room env0 binds rel promise
  have stays : ∀ b o, base.get? b = some o → s.heap.get? b = some o := fun b o e => (env0.bs b o e).1
  have kin : K.In s.heap := env0.mod.kin.keeps stays
  have nolim : s.heap.NoLimit := env0.mod.nolimit.keeps stays
  obtain ⟨t, walk, ends⟩ := body cdv A envs s H xs Q E quiet (room.deeper _) promise
  refine codeAny_call_function room.depth (kin _ _ look) rfl S.co S.gen rfl (PySem.W.codeRec_of kin code) (binds _ _ _ _ ?_)
  refine wpAny_newFunctionEnv_cells S.kind ?kinds fun env henv s1 made => ?_
  case kinds =>
    intro ⟨n, v⟩ mem
    cases S.par n (List.of_mem_zip mem).1 with
    | inl loc => exact Or.inl loc
    | inr cell => exact Or.inr ⟨cell, PySem.W.cellsFrom_some _ _ _ (Or.inl cell)⟩
  subst henv
  refine ⟨nolim.keeps made.toInCall.keep, codeAny_func ?_⟩
  refine wpAny_mono (walk.nox.run [] s1 (start N xs) H _ (inv_start S room.hd env0 (arity _ _ _ _ promise) rel made) ends) (fun flow s' out => ?_) fun e s' out => out
  match flow, out with
  | .ret u, out =>
    obtain ⟨v, σ', H', inv, ru, q⟩ := out
    exact ⟨v, H', inv.os, inv.bare, inv.base, inv.hok, ru, q⟩
  | .next, out =>
    obtain ⟨σ', H', inv, q⟩ := out
    exact ⟨V.non, H', inv.os, inv.bare, inv.base, inv.hok, rfl, q⟩
  | .brk, out => exact out.elim fun _ h => h.elim fun _ h => h.2.elim
  | .cont, out => exact out.elim fun _ h => h.elim fun _ h => h.2.elim
end
section
variable {X : Cx} {k : Nat} {f : Addr} {fd : FuncData} {ps : List Str} {sp : Sp} {x : Str} {p pos : Pos} {e : Expr} {es : List Expr} {t : TA}
/-- f(e, ..) where no repr is under way -/
theorem pe_callG (F : FnG X.prog X.w X.K X.mg X.base k f fd ps sp) (quiet : X.A.guards = some []) (hr : Room k X.A) (hg : Gl X x) (hm : X.mg x = some (.ref f)) (hk : PySem.W.keepIn X.K (.ref f) = true) (hb : Binds X.K fd ps []) (ha : PA X (e :: es) t)
    (hdb : (x == ("__debug__" : Str)) = false := by decide) (he : noStar e = true := by rfl) (hes : es.all noStar = true := by rfl) : PE X (.Call (.Name x p) (e :: es) [] pos) (tCall sp [] E0 t) := by
  constructor
  intro pins s σ H Q I reading
  refine wpAny_Call_Name_kw (ld_glob I hg hm ?_ hdb)
  refine PySem.W.callWith_K (h₀ := X.base) I.ok.mod.kin hk (thn (ha.run pos pins s σ H _ I reading) fun us s1 got => ?_) (star1 he) (starAll hes)
  obtain ⟨vs, H1, I1, rel, promise⟩ := got
  rw [List.append_nil] at promise
  refine ⟨I1.kIn, ?_⟩
  have len : us.length = ps.length := by
    rw [← rel.length]
    exact F.arity _ _ _ _ promise
  have bd := hb s1 us I1.kIn (by rw [List.append_nil]; exact len)
  rw [List.append_nil] at bd
  refine wpAny_call (codeAny_mono (F.go X.A X.stack s1 H1 ⟨us, []⟩ us vs Q E0 quiet hr I1.env0 bd rel promise) fun r s' out => ?_)
  match r, out with
  | .ok (.ret u), out => exact I1.after out
  | .ok .next, out => exact out.elim
  | .ok .brk, out => exact out.elim
  | .ok .cont, out => exact out.elim
  | .error _, out => exact out.elim
end
/-! ### the law's own call -/
section
variable {P : Program} {w : World} {K : PySem.W.Frag} {mg mb : Str → Option Value} {k : Nat} {fa a : Addr} {fd : FuncData} {x : Str} {sp : Sp} {s : Shared} {vals : List Value} {ns : List Int}
/-- from an abstract heap that tracks the script at most -/
theorem law_from (kin : K.In s.heap) (glob : s.heap.Ns mainGlobals mg) (blt : s.heap.Ns builtinsNs mb) (boot : ∀ x : Str, x ≠ "__name__" → mb x = bootBuiltins x) (nolim : s.heap.NoLimit) (gens : s.gens = #[])
    (script : s.heap.get? a = some { cls := .type "list", data := .seq vals.toArray }) (room : Room k callerA) (F : ∀ base : Heap, K.In base → base.Ns mainGlobals mg → FnG P w K mg base k fa fd [x] sp)
    (bind : ∀ (s : Shared) (u : Value), BindsTo s fd ⟨[u], []⟩ [(x, u)]) (H : Hp) (only : Only H) (promise : sp [.ref a] H (fun v _ => v = .bl true) E0) (hok : HOk P w H s.heap) (just : ∀ b, H b ≠ none → b = a) (off : H a ≠ none → K.lookup a = none) :
    codeAny (model P w) callerA (.call (.ref fa) ⟨[.ref a], []⟩) (fun r s' => r = .ok (.ret (.bool true)) ∧ OldK s.heap s'.heap ∧ s'.os = s.os ∧ AllBare s'.gens) s := by
  have free : ∀ {b : Addr} {o : Obj}, s.heap.get? b = some o → (∀ its n, o.data ≠ .seq its n) → H b = none := by
    intro b o e nseq
    cases hb : H b with
    | none => rfl
    | some u =>
      exfalso
      have eb := just b (by rw [hb]; exact fun z => by cases z)
      subst eb
      rw [script] at e
      cases e
      exact nseq _ _ rfl
  have ns' : ∀ {b : Addr} {m : Str → Option Value}, s.heap.Ns b m → (hidT s.heap H).Ns b m := by
    intro b m h
    obtain ⟨o, es, ep, e, d, r⟩ := h
    exact ⟨o, es, ep, hidT_get e (free e (fun its n z => by rw [d] at z; cases z)), d, r⟩
  have kin' : K.In (hidT s.heap H) := by
    intro b o e
    refine hidT_get (kin b o e) ?_
    cases hb : H b with
    | none => rfl
    | some u =>
      exfalso
      have eb := just b (by rw [hb]; exact fun z => by cases z)
      subst eb
      rw [off (by rw [hb]; exact fun z => by cases z)] at e
      cases e
  have env0 : Env0 P w K mg (hidT s.heap H) callerA [] s H := by
    refine ⟨rfl, ⟨kin', ns' glob, ⟨mb, ns' blt, boot⟩, ?_⟩, fun b o e => of_hidT e, Nat.le_of_eq (hidT_size _ _), trivial, fun b hb => ?_, hok, .of_eq gens⟩
    · obtain ⟨mc, h1, h2⟩ := nolim
      exact ⟨mc, ns' h1, h2⟩
    · exact absurd (show b ∈ ([] : List Addr) from hb) (by simp)
  have run := (F _ kin' (ns' glob)).go callerA [] s H ⟨[.ref a], []⟩ [.ref a] [.ref a] _ _ rfl room env0 (bind s (.ref a)) (.cons rfl .nil) promise
  refine codeAny_mono run fun r s' out => ?_
  match r, out with
  | .error _, out => exact out.elim
  | .ok .next, out => exact out.elim
  | .ok .brk, out => exact out.elim
  | .ok .cont, out => exact out.elim
  | .ok (.ret u), out =>
    obtain ⟨v, H', os, bare, un, hok', ru, hv⟩ := out
    have ev : v = .bl true := hv
    subst ev
    have eu : u = Value.bool true := ru
    subst eu
    refine ⟨rfl, OldK.of_keep fun b o e => ?_, os, bare⟩
    cases hb : H b with
    | none => exact un.keep b o e hb (fun z => absurd (show b ∈ ([] : List Addr) from z) (by simp)) (by simp)
    | some q =>
      cases only b with
      | inl z =>
        rw [hb] at z
        cases z
      | inr z =>
        obtain ⟨ob, xs, z⟩ := z
        have was := (hok b _ z).1
        have now := (hok' b _ (un.frzs b ob _ z)).1
        rw [e] at was
        cases was
        exact now
theorem law_g (kin : K.In s.heap) (glob : s.heap.Ns mainGlobals mg) (blt : s.heap.Ns builtinsNs mb) (boot : ∀ x : Str, x ≠ "__name__" → mb x = bootBuiltins x) (nolim : s.heap.NoLimit) (gens : s.gens = #[])
    (script : s.heap.get? a = some { cls := .type "list", data := .seq vals.toArray }) (whole : PyProof.Rows.IntsAre vals ns) (few : ns.length ≤ sizeLine) (room : Room k callerA) (F : ∀ base : Heap, K.In base → base.Ns mainGlobals mg → FnG P w K mg base k fa fd [x] sp)
    (bind : ∀ (s : Shared) (u : Value), BindsTo s fd ⟨[u], []⟩ [(x, u)]) (promise : ∀ H : Hp, Only H → SqL K H a (ns.map V.int) → sp [.ref a] H (fun v _ => v = .bl true) E0) :
    codeAny (model P w) callerA (.call (.ref fa) ⟨[.ref a], []⟩) (fun r s' => r = .ok (.ret (.bool true)) ∧ OldK s.heap s'.heap ∧ s'.os = s.os ∧ AllBare s'.gens) s := by
  have rel := vals_ints whole
  have many := whole.length
  cases own : K.lookup a with
  | some o =>
    have e := kin a o own
    rw [script] at e
    cases e
    have only : Only (fun _ => none) := fun _ => Or.inl rfl
    refine law_from kin glob blt boot nolim gens script room F bind (fun _ => none) only (promise _ only ?_) (fun b u z => ?_) (fun b z => absurd rfl z) (fun z => absurd rfl z)
    · exact Or.inr ⟨_, vals.toArray, _, own, rfl, rfl, rfl, by rw [List.size_toArray, many]; exact few, by simpa using rel⟩
    · exact absurd (show (none : Option HO) = some u from z) (fun z => by cases z)
  | none =>
    have at_a : ∀ {b : Addr}, b = a → (fun b => if b = a then some (HO.frz { cls := .type "list", data := .seq vals.toArray } (.lst (ns.map V.int))) else none) b = some (HO.frz { cls := .type "list", data := .seq vals.toArray } (.lst (ns.map V.int))) := fun h => if_pos h
    have off_a : ∀ {b : Addr}, b ≠ a → (fun b => if b = a then some (HO.frz { cls := .type "list", data := .seq vals.toArray } (.lst (ns.map V.int))) else none) b = none := fun h => if_neg h
    have only : Only (fun b => if b = a then some (HO.frz { cls := .type "list", data := .seq vals.toArray } (.lst (ns.map V.int))) else none) := fun b => by
      by_cases hb : b = a
      · exact Or.inr ⟨_, _, at_a hb⟩
      · exact Or.inl (off_a hb)
    refine law_from kin glob blt boot nolim gens script room F bind _ only (promise _ only (Or.inl (Or.inr ⟨_, at_a rfl⟩))) (fun b u z => ?_) (fun b z => ?_) (fun _ => own)
    · by_cases hb : b = a
      · have e := (at_a hb).symm.trans z
        cases e
        subst hb
        exact ⟨script, by rw [List.length_map]; exact few, vals, _, rel, script⟩
      · have e := (off_a hb).symm.trans z
        cases e
    · by_cases hb : b = a
      · exact hb
      · exact absurd (off_a hb) z
end
/-- the goal that the head leaves, from the law's promise -/
theorem walk_g {l : PySem.W.OpenLaw} {n k : Nat} {q : Program} {loose : List Str} {XP : (Str → Option Value) → Heap → Prop} {YP : World → Heap → Prop} {d : DefRec} {K : Params → PySem.W.Frag} {sp : PySem.W.Frag → Sp} {x : Str}
    (hn : l.most = some n) (few : n ≤ sizeLine) (hdf : d.params.defaults = []) (room : Room k callerA) (hY : ∀ (w : World) (h : Heap), YP w h → (K w.params).In h)
    (F : ∀ (w : World) (mg : Str → Option Value) (fa : Addr) (h : Heap), (K w.params).In h → h.Ns mainGlobals mg → mg d.name = some (.ref fa) →
      ∃ fd : FuncData, (∀ (s : Shared) (u : Value), BindsTo s fd ⟨[u], []⟩ [(x, u)]) ∧ ∀ base : Heap, (K w.params).In base → base.Ns mainGlobals mg → FnG l.prog w (K w.params) mg base k fa fd [x] (sp (K w.params)))
    (promise : ∀ (K : PySem.W.Frag) (H : Hp) (a : Addr) (ns : List Int), ns.length ≤ n → SqL K H a (ns.map V.int) → sp K [.ref a] H (fun v _ => v = .bl true) E0) :
    PySem.W.WalkO q loose XP YP l.row.toRowW d [] (fun f vs => PySem.call f vs) := by
  refine Att.attach_call hn hdf fun w s₀ s₁ mg mb fa o pm cd doc a vs ns G Y ho hd hcd hmg hobj hints hlen hg => ?_
  have kin := hY w _ Y
  obtain ⟨fd, bind, made⟩ := F w mg fa _ kin G.T.g hmg
  exact law_g kin G.T.g G.T.b G.T.builtins G.T.nolimit hg hobj hints (Nat.le_trans hlen few) room made bind fun H _ hS => promise _ H a ns hlen hS
end NL

/-! plans as trees, and as they lie in the heap -/
namespace NL
open PySem L2 Evl
inductive Tr where
  | hand (n : Str)
  | grp (n : Str) (b : Int) (ms : List Tr)
/-- name, whether it is a group, the groups around it -/
abbrev Rw := Str × Bool × List Str
mutual
def Tr.told : Tr → List Str → List Rw
  | .hand n, p => [(n, false, p)]
  | .grp n _ ms, p => (n, true, p) :: tolds ms (n :: p)
def tolds : List Tr → List Str → List Rw
  | [], _ => []
  | t :: ts, p => t.told p ++ tolds ts p
end
mutual
def Tr.size : Tr → Nat
  | .hand _ => 1
  | .grp _ _ ms => sizes ms + 1
def sizes : List Tr → Nat
  | [] => 0
  | t :: ts => t.size + sizes ts
end
mutual
def Tr.deep : Tr → Nat
  | .hand _ => 0
  | .grp _ _ ms => deeps ms + 1
def deeps : List Tr → Nat
  | [] => 0
  | t :: ts => max t.deep (deeps ts)
end
mutual
theorem told_len : ∀ (t : Tr) (p : List Str), (t.told p).length = t.size
  | .hand n, p => by simp [Tr.told, Tr.size]
  | .grp n b ms, p => by simp [Tr.told, Tr.size, tolds_len ms]
theorem tolds_len : ∀ (ts : List Tr) (p : List Str), (tolds ts p).length = sizes ts
  | [], p => by simp [tolds, sizes]
  | t :: ts, p => by simp [tolds, sizes, told_len t, tolds_len ts]
end
mutual
inductive TrV (H : Hp) : V → Tr → Prop
  | hand (n : Str) : TrV H (.str n) (.hand n)
  | grp {a m : Addr} {n : Str} {b : Int} {xs : List V} {ms : List Tr} : H a = some (.tup [.str n, .int b, .ref m]) → H m = some (.tup xs) → TrVs H xs ms → TrV H (.ref a) (.grp n b ms)
inductive TrVs (H : Hp) : List V → List Tr → Prop
  | nil : TrVs H [] []
  | cons {v : V} {vs : List V} {t : Tr} {ts : List Tr} : TrV H v t → TrVs H vs ts → TrVs H (v :: vs) (t :: ts)
end
/-- tuples stay -/
def TK (H H' : Hp) : Prop := ∀ a xs, H a = some (.tup xs) → H' a = some (.tup xs)
theorem TK.refl (H : Hp) : TK H H := fun _ _ e => e
theorem TK.trans {H H1 H2 : Hp} (a : TK H H1) (b : TK H1 H2) : TK H H2 := fun x o e => b x o (a x o e)
theorem TK.ex {H H' : Hp} (e : Ex H H') : TK H H' := fun a xs h => e a _ h
theorem TK.put {H : Hp} {p : Addr} {o : HO} (h : ∀ xs, H p ≠ some (.tup xs)) : TK H (upd H p o) := fun a xs e => by
  rw [upd_ne (fun z => by subst z; exact h _ e)]
  exact e
theorem TK.lst {H : Hp} {p : Addr} {o : HO} {ys : List V} (h : H p = some (.lst ys)) : TK H (upd H p o) := TK.put fun xs e => by rw [h] at e; cases e
theorem TK.new {H : Hp} {p : Addr} {o : HO} (h : H p = none) : TK H (upd H p o) := TK.put fun xs e => by rw [h] at e; cases e
mutual
theorem trv_tk {H H' : Hp} (k : TK H H') : ∀ (t : Tr) (v : V), TrV H v t → TrV H' v t
  | .hand n, _, h => by cases h; exact .hand n
  | .grp n b ms, _, h => by
    cases h with
    | grp h1 h2 h3 => exact .grp (k _ _ h1) (k _ _ h2) (trvs_tk k ms _ h3)
theorem trvs_tk {H H' : Hp} (k : TK H H') : ∀ (ts : List Tr) (vs : List V), TrVs H vs ts → TrVs H' vs ts
  | [], _, h => by cases h; exact .nil
  | t :: ts, _, h => by
    cases h with
    | cons h1 h2 => exact .cons (trv_tk k t _ h1) (trvs_tk k ts _ h2)
end
theorem trvs_get {H : Hp} : ∀ {vs : List V} {ts : List Tr} {i : Nat} {v : V}, TrVs H vs ts → vs[i]? = some v → ∃ t, ts[i]? = some t ∧ TrV H v t
  | _, _, _, _, .nil, e => by simp at e
  | _, _, 0, _, .cons r _, e => by simp at e; subst e; exact ⟨_, rfl, r⟩
  | _, _, i + 1, v, .cons _ t, e => by
    obtain ⟨d, h1, h2⟩ := trvs_get (i := i) (v := v) t (by simpa using e)
    exact ⟨d, by simpa using h1, h2⟩
theorem trvs_len {H : Hp} : ∀ {vs : List V} {ts : List Tr}, TrVs H vs ts → vs.length = ts.length
  | _, _, .nil => rfl
  | _, _, .cons _ t => by rw [List.length_cons, List.length_cons, trvs_len t]
theorem tolds_take : ∀ (ts : List Tr) (i : Nat) (t : Tr) (p : List Str), ts[i]? = some t → tolds (ts.take (i + 1)) p = tolds (ts.take i) p ++ t.told p
  | [], _, _, _, h => by simp at h
  | u :: ts, 0, t, p, h => by
    simp at h
    subst h
    simp [tolds]
  | u :: ts, i + 1, t, p, h => by
    have ih := tolds_take ts i t p (by simpa using h)
    simp only [List.take_succ_cons, tolds]
    rw [ih, List.append_assoc]
theorem sizes_mem : ∀ {ts : List Tr} {i : Nat} {t : Tr}, ts[i]? = some t → t.size ≤ sizes ts
  | [], _, _, h => by simp at h
  | u :: ts, 0, t, h => by simp at h; subst h; simp [sizes]
  | u :: ts, i + 1, t, h => by
    have := sizes_mem (ts := ts) (i := i) (t := t) (by simpa using h)
    simp only [sizes]
    omega
theorem deeps_mem : ∀ {ts : List Tr} {i : Nat} {t : Tr}, ts[i]? = some t → t.deep ≤ deeps ts
  | [], _, _, h => by simp at h
  | u :: ts, 0, t, h => by simp at h; subst h; simp only [deeps]; exact Nat.le_max_left _ _
  | u :: ts, i + 1, t, h => by
    have := deeps_mem (ts := ts) (i := i) (t := t) (by simpa using h)
    simp only [deeps]
    exact Nat.le_trans this (Nat.le_max_right _ _)
theorem sizes_take : ∀ (ts : List Tr) (i : Nat), sizes (ts.take i) ≤ sizes ts
  | [], i => by simp [sizes]
  | t :: ts, 0 => by simp [sizes]
  | t :: ts, i + 1 => by
    have := sizes_take ts i
    simp only [List.take_succ_cons, sizes]
    omega
/-- a row of a tale of a plan, in the heap -/
def RowT (H : Hp) (v : V) (r : Rw) : Prop := ∃ a pa, v = .ref a ∧ H a = some (.tup [.str r.1, .bl r.2.1, .ref pa]) ∧ H pa = some (.tup (r.2.2.map V.str))
inductive Rows (H : Hp) : List V → List Rw → Prop
  | nil : Rows H [] []
  | cons {v : V} {vs : List V} {r : Rw} {rs : List Rw} : RowT H v r → Rows H vs rs → Rows H (v :: vs) (r :: rs)
theorem RowT.tk {H H' : Hp} {v : V} {r : Rw} (k : TK H H') (h : RowT H v r) : RowT H' v r := by
  obtain ⟨a, pa, e, h1, h2⟩ := h
  exact ⟨a, pa, e, k _ _ h1, k _ _ h2⟩
theorem Rows.tk {H H' : Hp} (k : TK H H') : ∀ {vs : List V} {rs : List Rw}, Rows H vs rs → Rows H' vs rs
  | _, _, .nil => .nil
  | _, _, .cons a b => .cons (a.tk k) (b.tk k)
theorem Rows.app {H : Hp} : ∀ {vs us : List V} {rs qs : List Rw}, Rows H vs rs → Rows H us qs → Rows H (vs ++ us) (rs ++ qs)
  | _, _, _, _, .nil, h => h
  | _, _, _, _, .cons a b, h => .cons a (b.app h)
theorem Rows.one {H : Hp} {v : V} {r : Rw} (h : RowT H v r) : Rows H [v] [r] := .cons h .nil
theorem Rows.len {H : Hp} : ∀ {vs : List V} {rs : List Rw}, Rows H vs rs → vs.length = rs.length
  | _, _, .nil => rfl
  | _, _, .cons _ t => by rw [List.length_cons, List.length_cons, t.len]
theorem Rows.get {H : Hp} : ∀ {vs : List V} {rs : List Rw} {i : Nat} {v : V}, Rows H vs rs → vs[i]? = some v → ∃ r, rs[i]? = some r ∧ RowT H v r
  | _, _, _, _, .nil, e => by simp at e
  | _, _, 0, _, .cons r _, e => by simp at e; subst e; exact ⟨_, rfl, r⟩
  | _, _, i + 1, v, .cons _ t, e => by
    obtain ⟨d, h1, h2⟩ := t.get (i := i) (v := v) (by simpa using e)
    exact ⟨d, by simpa using h1, h2⟩
/-- isinstance(x, T), by the thing's kind -/
theorem ev_isK {K : PySem.W.Frag} {σ : L2.St} {H : Hp} {ta : TE} {x : V} {T S : String} {b : Bool} (ha : Ev ta σ H x) (ty : ∀ H2, Ex H H2 → TyX K H2 x (.type S)) (hk : kitB S T = some b) : Ev (tCB (rIsi K) (tCons ta (tCons (tC (.ty T)) tNil))) σ H (.bl b) := fun H1 e Q q =>
  ha H1 e _ fun H2 e2 => ⟨x, .ty T, _, _, b, rfl, .ty T, ty H2 (e.trans e2), kit_ty hk, q H2 e2⟩
theorem q_asgG {te : TE} {g : TG} {tz : TS} {D : Ends} {σ : L2.St} {H : Hp} (h : te σ H fun x H1 => g x σ H1 fun σ2 H2 => tz D σ2 H2) : tSeq (tAsg te g) tz D σ H := h
def Tr.isHand : Tr → Bool
  | .hand _ => true
  | _ => false
theorem ev_isHand {K : PySem.W.Frag} {σ : L2.St} {H : Hp} {ta : TE} {x : V} {t : Tr} (ha : Ev ta σ H x) (h : TrV H x t) : Ev (tCB (rIsi K) (tCons ta (tCons (tC (.ty "str")) tNil))) σ H (.bl t.isHand) := by
  cases h with
  | hand n => exact ev_isK ha (fun H2 _ => .base (.str n)) (by decide +kernel : kitB "str" "str" = some true)
  | grp h1 h2 h3 => exact ev_isK ha (fun H2 e => .base (.tup (e _ _ h1))) (by decide +kernel : kitB "tuple" "str" = some false)
theorem find_at {α : Type} {p : α → Bool} : ∀ {rs : List α} {i : Nat} {r : α}, (∀ x ∈ rs.take i, p x = false) → rs[i]? = some r → p r = true → rs.find? p = some r
  | [], _, _, _, h, _ => by simp at h
  | x :: rs, 0, r, _, h, hp => by
    simp at h
    subst h
    simp [List.find?_cons, hp]
  | x :: rs, i + 1, r, hn, h, hp => by
    have h0 := hn x (by simp)
    have := find_at (p := p) (rs := rs) (i := i) (r := r) (fun y hy => hn y (by simp [hy])) (by simpa using h) hp
    simp [List.find?_cons, h0, this]
theorem find_none {α : Type} {p : α → Bool} {rs : List α} (h : ∀ x ∈ rs, p x = false) : rs.find? p = none := by
  rw [List.find?_eq_none]
  intro x hx
  rw [h x hx]
  decide
theorem filter_take {α : Type} {p : α → Bool} {rs : List α} {i : Nat} {r : α} (h : rs[i]? = some r) : (rs.take (i + 1)).filter p = (rs.take i).filter p ++ (if p r = true then [r] else []) := by
  rw [List.take_succ, h, List.filter_append]
  simp [List.filter_cons]
/-! ### names -/
def letter (c : Nat) : Bool := decide (97 ≤ c) && decide (c ≤ 122)
def nameOk (s : Str) : Prop := 1 ≤ s.length ∧ s.length ≤ 8 ∧ ∀ c ∈ s.cps.toList, 97 ≤ c ∧ c ≤ 122
def midOf (k : Nat) : List Nat := if k = 0 then [] else if k = 1 then [113] else [120]
/-- the name of a spot, as codes -/
def spotL (s : Nat) (stem : List Nat) : List Nat := (97 + s % 26) :: (midOf (s / 26) ++ stem)
theorem spot_inj {s s' : Nat} {stem : List Nat} (h1 : s < 60) (h2 : s' < 60) (h : spotL s stem = spotL s' stem) : s = s' := by
  unfold spotL at h
  have ha : s % 26 = s' % 26 := by
    have := (List.cons.inj h).1
    omega
  have hb := (List.cons.inj h).2
  have hc : midOf (s / 26) = midOf (s' / 26) := List.append_cancel_right hb
  have hd : s / 26 = s' / 26 := by
    have c1 : s / 26 = 0 ∨ s / 26 = 1 ∨ s / 26 = 2 := by omega
    have c2 : s' / 26 = 0 ∨ s' / 26 = 1 ∨ s' / 26 = 2 := by omega
    rcases c1 with c1 | c1 | c1 <;> rcases c2 with c2 | c2 | c2 <;> rw [c1, c2] at hc ⊢ <;> simp [midOf] at hc
  omega
theorem spot_letters {s : Nat} {stem : List Nat} (hs : ∀ c ∈ stem, 97 ≤ c ∧ c ≤ 122) : ∀ c ∈ spotL s stem, 97 ≤ c ∧ c ≤ 122 := by
  intro c hc
  unfold spotL at hc
  rcases List.mem_cons.mp hc with rfl | hc
  · omega
  · rcases List.mem_append.mp hc with hc | hc
    · unfold midOf at hc
      split at hc
      · cases hc
      · split at hc
        · simp at hc; omega
        · simp at hc; omega
    · exact hs c hc
theorem spot_len (s : Nat) (stem : List Nat) : (spotL s stem).length ≤ stem.length + 2 ∧ 1 ≤ (spotL s stem).length := by
  unfold spotL midOf
  simp only [List.length_cons, List.length_append]
  split
  · simp
  · split <;> simp <;> omega
theorem nodup_set {xs : List Str} {w : Str} (h : xs.Nodup) (hw : w ∉ xs) : ∀ j : Nat, (xs.set j w).Nodup := by
  induction xs with
  | nil => intro j; simp
  | cons x xs ih =>
    intro j
    have hx := List.nodup_cons.mp h
    cases j with
    | zero =>
      simp only [List.set_cons_zero]
      exact List.nodup_cons.mpr ⟨fun z => hw (List.mem_cons_of_mem _ z), hx.2⟩
    | succ j =>
      simp only [List.set_cons_succ]
      refine List.nodup_cons.mpr ⟨fun z => ?_, ih hx.2 (fun z => hw (List.mem_cons_of_mem _ z)) j⟩
      rcases List.mem_or_eq_of_mem_set z with z | z
      · exact hx.1 z
      · exact hw (by rw [← z]; exact List.mem_cons_self ..)
theorem map_nodup {α : Type} {f : Nat → α} {n : Nat} (h : ∀ i j, i < n → j < n → f i = f j → i = j) : ((List.range n).map f).Nodup := by
  unfold List.Nodup
  rw [List.pairwise_map]
  refine List.Pairwise.imp_of_mem (fun {a b} ha hb hab => ?_) (List.nodup_range (n := n))
  intro e
  exact hab (h a b (List.mem_range.mp ha) (List.mem_range.mp hb) e)
theorem q_parP {i j : Nat} {ta : TA} {tz : TS} {D : Ends} {σ : L2.St} {H : Hp} (h : ta σ H fun vs H1 => ∃ v w, vs = [v, w] ∧ tz D ((σ.set i (some v)).set j (some w)) H1) : tSeq (tPar i j ta) tz D σ H := h
theorem in_strs {x : Str} {xs : List Str} : inV (.str x) (xs.map V.str) = decide (x ∈ xs) := by
  unfold inV
  rw [List.any_map]
  rw [Bool.eq_iff_iff, List.any_eq_true, decide_eq_true_eq]
  constructor
  · intro ⟨y, hy, e⟩
    have : y = x := by simpa [eqV] using e
    subst this
    exact hy
  · intro h
    exact ⟨x, h, by simp [eqV]⟩
theorem flat_strs (xs : List Str) : (xs.map V.str).all flatV = true := by
  rw [List.all_map, List.all_eq_true]
  intro x _
  rfl
theorem tYesQ {σ : L2.St} {H : Hp} {A B : Hp → Prop} (h : A H) : tYes σ H fun b H3 => if b = true then A H3 else B H3 := by
  show if true = true then A H else B H
  rw [if_pos rfl]
  exact h
/-- a loop over a new tuple -/
theorem q_forTu {K : PySem.W.Frag} {σ : L2.St} {H : Hp} {xs : List V} {tl : TE} {j : Nat} {tu tz : TS} {D : Ends} (h : EvU tl σ H xs) (Pv : Addr → Nat → L2.St → Hp → Prop) (h0 : ∀ p H1, H p = none → Ex H H1 → H1 p = some (.tup xs) → Pv p 0 σ H1) (hl : ∀ p i σ' H', i ≤ xs.length → Pv p i σ' H' → SqT K H' p xs)
    (hs : ∀ p i x σ' H', xs[i]? = some x → Pv p i σ' H' → tu { D with nx := Pv p (i + 1), ct := Pv p (i + 1), bk := tz D } (σ'.set j (some x)) H') (hd : ∀ p σ' H', Pv p xs.length σ' H' → tz D σ' H') : tSeq (tFor (iTup K tl) (gName j) tu) tz D σ H := by
  refine h H (Ex.refl H) _ fun p H1 fresh e at_p => ?_
  exact ⟨p, rfl, ⟨xs, st_of at_p⟩, for_tup (Pv p) (h0 p H1 fresh e at_p) (hl p) (hs p) (hd p)⟩
/-! ### names of a tree -/
mutual
def Tr.nms : Tr → List Str
  | .hand n => [n]
  | .grp n _ ms => n :: nmss ms
def nmss : List Tr → List Str
  | [] => []
  | t :: ts => t.nms ++ nmss ts
end
mutual
theorem told_nms : ∀ (t : Tr) (p : List Str), (t.told p).map (·.1) = t.nms
  | .hand n, p => by simp [Tr.told, Tr.nms]
  | .grp n b ms, p => by simp [Tr.told, Tr.nms, tolds_nms ms]
theorem tolds_nms : ∀ (ts : List Tr) (p : List Str), (tolds ts p).map (·.1) = nmss ts
  | [], p => by simp [tolds, nmss]
  | t :: ts, p => by simp [tolds, nmss, told_nms t, tolds_nms ts]
end
theorem nms_len (t : Tr) : t.nms.length = t.size := by rw [← told_nms t [], List.length_map, told_len]
theorem nmss_len (ts : List Tr) : (nmss ts).length = sizes ts := by rw [← tolds_nms ts [], List.length_map, tolds_len]
theorem nmss_app : ∀ (ts us : List Tr), nmss (ts ++ us) = nmss ts ++ nmss us
  | [], us => by simp [nmss]
  | t :: ts, us => by simp [nmss, nmss_app ts us]
theorem sizes_app : ∀ (ts us : List Tr), sizes (ts ++ us) = sizes ts + sizes us
  | [], us => by simp [sizes]
  | t :: ts, us => by simp [sizes, sizes_app ts us]; omega
theorem deeps_app : ∀ (ts us : List Tr), deeps (ts ++ us) = max (deeps ts) (deeps us)
  | [], us => by simp [deeps]
  | t :: ts, us => by simp [deeps, deeps_app ts us, Nat.max_assoc]
theorem trvs_app {H : Hp} : ∀ {vs us : List V} {ts qs : List Tr}, TrVs H vs ts → TrVs H us qs → TrVs H (vs ++ us) (ts ++ qs)
  | _, _, _, _, .nil, h => h
  | _, _, _, _, .cons a b, h => .cons a (trvs_app b h)
mutual
def Tr.ok : Tr → Prop
  | .hand _ => True
  | .grp _ b ms => 1 ≤ b ∧ b ≤ 99999999 ∧ ms ≠ [] ∧ oks ms
def oks : List Tr → Prop
  | [] => True
  | t :: ts => t.ok ∧ oks ts
end
theorem oks_app : ∀ {ts us : List Tr}, oks ts → oks us → oks (ts ++ us)
  | [], _, _, h => h
  | _ :: _, _, a, h => by
    simp only [oks, List.cons_append] at a ⊢
    exact ⟨a.1, oks_app a.2 h⟩
/-- how many names a member takes at most -/
def mem : Nat → Nat → Nat
  | 0, _ => 1
  | d + 1, w => 1 + w * mem d w
theorem mem_pos : ∀ d w, 1 ≤ mem d w
  | 0, _ => by simp [mem]
  | d + 1, w => by simp [mem]
/-- all stays but the hand and one list -/
def Kn (h l m : Addr) (H H' : Hp) : Prop := ∀ a o, a ≠ h → a ≠ l → a ≠ m → H a = some o → H' a = some o
theorem Kn.refl (h l m : Addr) (H : Hp) : Kn h l m H H := fun _ _ _ _ _ e => e
theorem Kn.trans {h l m : Addr} {H H1 H2 : Hp} (a : Kn h l m H H1) (b : Kn h l m H1 H2) : Kn h l m H H2 := fun x o n1 n2 n3 e => b x o n1 n2 n3 (a x o n1 n2 n3 e)
theorem Kn.kp {h l m : Addr} {H H1 : Hp} (a : Kp h l H H1) : Kn h l m H H1 := fun x o n1 n2 _ e => a x o n1 n2 e
theorem Kn.ex {h l m : Addr} {H H1 : Hp} (a : Ex H H1) : Kn h l m H H1 := fun x o _ _ _ e => a x o e
theorem Kn.put {h l m : Addr} {H H1 : Hp} {o : HO} (a : Kn h l m H H1) : Kn h l m H (upd H1 m o) := fun x u n1 n2 n3 e => by
  rw [upd_ne n3]
  exact a x u n1 n2 n3 e
theorem Kn.mut {h l m p : Addr} {H H1 : Hp} {o : HO} (a : Kn h l m H H1) (hp : H p = none) : Kn h l m H (upd H1 p o) := fun x u n1 n2 n3 e => by
  rw [upd_ne (fun z => by subst z; rw [hp] at e; cases e)]
  exact a x u n1 n2 n3 e
theorem Kn.tk {h l m : Addr} {H H1 : Hp} {ys : List V} (A : Hand H h l) (hm : H m = some (.lst ys)) (a : Kn h l m H H1) : TK H H1 := fun x xs e => by
  obtain ⟨n1, n2⟩ := A.off e (fun _ z => by cases z)
  exact a x _ n1 n2 (fun z => by subst z; rw [hm] at e; cases e) e
theorem q_forU {wi : TI} {g : TG} {tb tz : TS} {D : Ends} {σ : L2.St} {H : Hp} (h : wi σ H fun J H1 => ∃ W : Nat → Nat → L2.St → Hp → Prop, (∃ m, W 0 m σ H1) ∧ ∀ i m σ H, W i m σ H →
    (J.stop i H ∧ tz D σ H) ∨ (J.go i H ∧ ∃ N : L2.St → Hp → Prop, (∀ σ' H', N σ' H' → ∃ m', m' < m ∧ W (i + 1) m' σ' H') ∧ ∀ x H', J.yld i H x H' → g x σ H' fun σ2 H2 => tb { D with nx := N, ct := N, bk := tz D } σ2 H2)) : tSeq (tFor wi g tb) tz D σ H := h
theorem rng_turns {g : TG} {tb tz : TS} {D : Ends} {σ : L2.St} {H : Hp} {n : Nat} (Pv : Nat → L2.St → Hp → Prop) (h0 : Pv 0 σ H) (hs : ∀ (i : Nat) σ' H', i < n → Pv i σ' H' → g (.int (0 + (i : Int))) σ' H' fun σ2 H2 => tb { D with nx := Pv (i + 1), ct := Pv (i + 1), bk := tz D } σ2 H2) (hd : ∀ σ' H', Pv n σ' H' → tz D σ' H') :
    ∃ W : Nat → Nat → L2.St → Hp → Prop, (∃ m, W 0 m σ H) ∧ ∀ i m σ H, W i m σ H →
    ((Itr 0 n).stop i H ∧ tz D σ H) ∨ ((Itr 0 n).go i H ∧ ∃ N : L2.St → Hp → Prop, (∀ σ' H', N σ' H' → ∃ m', m' < m ∧ W (i + 1) m' σ' H') ∧ ∀ x H', (Itr 0 n).yld i H x H' → g x σ H' fun σ2 H2 => tb { D with nx := N, ct := N, bk := tz D } σ2 H2) :=
  for_range (lo := 0) (n := n) (D := { D with nx := tz D }) Pv h0 hs hd
theorem last_of {xs : List Str} (h : 1 ≤ xs.length) : ∃ ys n, xs = ys ++ [n] := by
  refine ⟨xs.dropLast, xs.getLast (fun z => by subst z; simp at h), ?_⟩
  exact (List.dropLast_concat_getLast _).symm
theorem last_get (ys : List Str) (n : Str) : ((ys ++ [n]).map V.str)[((ys ++ [n]).map V.str).length - 1]? = some (.str n) := by
  simp
theorem last_drop (ys : List Str) (n : Str) : ((ys ++ [n]).map V.str).dropLast = ys.map V.str := by
  rw [List.map_append]
  simp
end NL

/-! repr of what lies in the heap; plans as data -/
namespace NL
open PySem PySem.Spec PyProof.Rows L2 Evl
/-- data whose text fits -/
def shows (d : PyData) : Prop := d.showable = true ∧ d.hasDict = false ∧ d.depth ≤ 64 ∧ d.shown.length ≤ 100000
def rRepr (K : PySem.W.Frag) : List V → Hp → VK → Prop := fun xs H Q => ∃ (a : Addr) (d : PyData), xs = [.ref a] ∧ Dp K H (.ref a) d ∧ shows d ∧ Q (.str d.shown) H
theorem hu_r {k : Nat} {A : Around} (hr : Room k A) : A.units + 100 < cLine := by
  have := hr.un
  omega
theorem reprK {X : Cx} {K : PySem.W.Frag} (h : X.K = K) (quiet : X.A.guards = some []) (room : X.A.units + 100 < cLine) : CallR X (.builtin "repr") (rRepr K) := by
  subst h
  intro pins s σ H xs us Q I rel told
  obtain ⟨a, d, e, data, ⟨s1, s2, s3, s4⟩, q⟩ := told
  subst e
  obtain ⟨u, eu, ru⟩ := vals1 rel
  subst eu
  cases ru
  obtain ⟨as, reads⟩ := Dp.reads I d (.ref a) (.ref a) data rfl
  refine repr_of_reads' reads s1 (fun z => ?_) quiet (by omega) (fun b o e => e) (fun h' u tk kept => ?_) (Nat.le_trans s4 (by decide))
  · rw [s2] at z
    cases z
  · exact ⟨.str d.shown, H, I.kept kept, ⟨u, rfl⟩, q⟩
section
variable {K : PySem.W.Frag} {σ : L2.St} {H : Hp} {ta te : TE}
theorem ev_repr {a : Addr} {d : PyData} (ha : Ev ta σ H (.ref a)) (hd : Dp K H (.ref a) d) (hs : shows d) : Ev (tCB (rRepr K) (tCons ta tNil)) σ H (.str d.shown) := fun H1 e Q q =>
  ha H1 e _ fun H2 e2 => ⟨a, d, rfl, dp_mono (e.trans e2) hd, hs, q H2 e2⟩
/-- evaluates to some tuple of these things -/
def EvP (te : TE) (σ : L2.St) (H : Hp) (xs : List V) : Prop := ∀ H1, Ex H H1 → ∀ Q : VK, (∀ p H2, Ex H1 H2 → H2 p = some (.tup xs) → Q (.ref p) H2) → te σ H1 Q
theorem dpa_strs {H : Hp} : ∀ ns : List Str, DpAll K H (ns.map V.str) (ns.map PyData.str)
  | [] => .nil
  | n :: r => .cons (.str n) (dpa_strs r)
theorem ev_reprP {ns : List Str} (h : EvP te σ H (ns.map V.str)) (hs : shows (.tuple (ns.map PyData.str))) : Ev (tCB (rRepr K) (tCons te tNil)) σ H (.str (PyData.tuple (ns.map PyData.str)).shown) := fun H1 e Q q =>
  h H1 e _ fun p H2 e2 hp => ⟨p, _, rfl, .tup (st_of hp) (dpa_strs ns), hs, q H2 e2⟩
end
/-! ### how long a text is -/
theorem join_len (sep : Str) : ∀ ts : List Str, (Str.join sep ts).length ≤ (ts.map fun t => t.length + sep.length).sum
  | [] => by simp [Str.join, Str.empty, Str.length]
  | [t] => by simp [Str.join]
  | t :: u :: r => by
    have ih := join_len sep (u :: r)
    simp only [Str.join, Str.length_append, List.map_cons, List.sum_cons] at ih ⊢
    omega
theorem tuple_len (ts : List Str) : (tupleText ts).length ≤ (ts.map fun t => t.length + 2).sum + 3 := by
  unfold tupleText
  rw [Str.length_append, Str.length_append]
  have h := join_len ", " ts
  have e1 : (", " : Str).length = 2 := by decide +kernel
  have e2 : ("(" : Str).length = 1 := by decide +kernel
  rw [e1] at h
  have e3 : (Str.ofString (if (ts.length == 1) = true then ",)" else ")" : String)).length ≤ 2 := by
    split
    · decide +kernel
    · decide +kernel
  omega
theorem name_len {n : Str} (h : nameOk n) : (PyData.str n).shown.length ≤ 82 := by
  have e : (PyData.str n).shown = reprText n := by simp only [PyData.shown]
  rw [e]
  have := StrLaws.reprText_len n (fun c hc => by have := h.2.2 c hc; omega)
  have := h.2.1
  omega
theorem sum_le {α : Type} {f : α → Nat} {b : Nat} : ∀ {l : List α}, (∀ x ∈ l, f x ≤ b) → (l.map f).sum ≤ b * l.length
  | [], _ => by simp
  | x :: l, h => by
    have h1 := h x (List.mem_cons_self ..)
    have h2 := sum_le (f := f) (b := b) (l := l) (fun y hy => h y (List.mem_cons_of_mem _ hy))
    simp only [List.map_cons, List.sum_cons, List.length_cons, Nat.mul_succ]
    omega
theorem shownAll_map : ∀ ds : List PyData, PyData.shownAll ds = ds.map PyData.shown
  | [] => by simp [PyData.shownAll]
  | d :: ds => by simp [PyData.shownAll, shownAll_map ds]
theorem shows_names {ns : List Str} (h : ∀ n ∈ ns, nameOk n) (hl : ns.length ≤ 1000) : shows (.tuple (ns.map PyData.str)) := by
  refine ⟨?_, ?_, ?_, ?_⟩
  · simp only [PyData.showable]
    clear h hl
    induction ns with
    | nil => simp [PyData.showableAll]
    | cons n r ih => simp [PyData.showableAll, PyData.showable, ih]
  · simp only [PyData.hasDict]
    clear h hl
    induction ns with
    | nil => simp [PyData.hasDictAll]
    | cons n r ih => simp [PyData.hasDictAll, PyData.hasDict, ih]
  · simp only [PyData.depth]
    have : PyData.depthAll (ns.map PyData.str) = 0 := by
      clear h hl
      induction ns with
      | nil => simp [PyData.depthAll]
      | cons n r ih => simp [PyData.depthAll, PyData.depth, ih]
    omega
  · simp only [PyData.shown, shownAll_map]
    have t := tuple_len ((ns.map PyData.str).map PyData.shown)
    have s := sum_le (f := fun t : Str => t.length + 2) (b := 84) (l := (ns.map PyData.str).map PyData.shown) (fun x hx => by
      obtain ⟨d, hd, rfl⟩ := List.mem_map.mp hx
      obtain ⟨n, hn, rfl⟩ := List.mem_map.mp hd
      have := name_len (h n hn)
      omega)
    simp only [List.length_map] at s
    omega
/-! ### a plan as a datum -/
mutual
def Tr.dat : Tr → PyData
  | .hand n => .str n
  | .grp n b ms => .tuple [.str n, .int b, .tuple (dats ms)]
def dats : List Tr → List PyData
  | [] => []
  | t :: ts => t.dat :: dats ts
end
mutual
theorem trv_dp {K : PySem.W.Frag} {H : Hp} : ∀ (t : Tr) (v : V), TrV H v t → Dp K H v t.dat
  | .hand n, _, h => by cases h; simp only [Tr.dat]; exact .str n
  | .grp n b ms, _, h => by
    cases h with
    | grp h1 h2 h3 =>
      simp only [Tr.dat]
      exact .tup (st_of h1) (.cons (.str n) (.cons (.int b) (.cons (.tup (st_of h2) (trvs_dp ms _ h3)) .nil)))
theorem trvs_dp {K : PySem.W.Frag} {H : Hp} : ∀ (ts : List Tr) (vs : List V), TrVs H vs ts → DpAll K H vs (dats ts)
  | [], _, h => by cases h; simp only [dats]; exact .nil
  | t :: ts, _, h => by
    cases h with
    | cons h1 h2 =>
      simp only [dats]
      exact .cons (trv_dp t _ h1) (trvs_dp ts _ h2)
end
theorem ok_lay {n : Str} (h : nameOk n) : PyData.strOk n = true := by
  unfold PyData.strOk
  rw [Array.all_eq_true']
  intro c hc
  have := h.2.2 c (by simpa using hc)
  simp
  omega
mutual
theorem dat_facts : ∀ (t : Tr), (∀ n ∈ t.nms, nameOk n) → t.ok → t.dat.canLay0 = true ∧ t.dat.depth ≤ 2 * t.deep ∧ t.dat.showable = true ∧ t.dat.hasDict = false ∧ t.dat.shown.length + 2 ≤ 150 * t.size
  | .hand n, h, _ => by
    have hn := h n (by simp [Tr.nms])
    have := name_len hn
    simp only [Tr.dat, Tr.deep, Tr.size]
    refine ⟨by simp only [PyData.canLay0]; exact ok_lay hn, by simp [PyData.depth], by simp [PyData.showable], by simp [PyData.hasDict], by omega⟩
  | .grp n b ms, h, ho => by
    have hn := h n (by simp [Tr.nms])
    have hb := name_len hn
    simp only [Tr.ok] at ho
    obtain ⟨b1, b2, _, ho⟩ := ho
    obtain ⟨i1, i2, i3, i4, i5⟩ := dats_facts ms (fun m hm => h m (by simp [Tr.nms, hm])) ho
    have bl : b.natAbs.log2 < 27 := by
      have : b.natAbs < 2 ^ 27 := by omega
      by_cases h0 : b.natAbs = 0
      · rw [h0]; decide
      · exact (Nat.log2_lt h0).mpr this
    have it : (PyData.int b).shown.length ≤ 28 := by
      simp only [PyData.shown]
      have := int_text_length_le (a := b) (k := 27) (by decide) bl
      rw [PySem.ofString_length]
      exact this
    simp only [Tr.dat, Tr.deep, Tr.size]
    refine ⟨?_, ?_, ?_, ?_, ?_⟩
    · simp [PyData.canLay0, PyData.canLayAll0, ok_lay hn, i1]
    · simp only [PyData.depth, PyData.depthAll]
      omega
    · simp only [PyData.showable, PyData.showableAll, i3, Bool.and_true, Bool.true_and, decide_eq_true_eq]
      omega
    · simp [PyData.hasDict, PyData.hasDictAll, i4]
    · have t1 := tuple_len [(PyData.str n).shown, (PyData.int b).shown, (PyData.tuple (dats ms)).shown]
      have t2 := tuple_len ((dats ms).map PyData.shown)
      have e1 : (PyData.tuple [.str n, .int b, .tuple (dats ms)]).shown = tupleText [(PyData.str n).shown, (PyData.int b).shown, (PyData.tuple (dats ms)).shown] := by simp only [PyData.shown, PyData.shownAll]
      have e2 : (PyData.tuple (dats ms)).shown = tupleText ((dats ms).map PyData.shown) := by simp only [PyData.shown, shownAll_map]
      rw [e1]
      simp only [List.map_cons, List.map_nil, List.sum_cons, List.sum_nil] at t1
      rw [e2] at t1 ⊢
      omega
theorem dats_facts : ∀ (ts : List Tr), (∀ n ∈ nmss ts, nameOk n) → oks ts → PyData.canLayAll0 (dats ts) = true ∧ PyData.depthAll (dats ts) ≤ 2 * deeps ts ∧ PyData.showableAll (dats ts) = true ∧ PyData.hasDictAll (dats ts) = false ∧ (((dats ts).map PyData.shown).map fun t => t.length + 2).sum ≤ 150 * sizes ts
  | [], _, _ => by simp [dats, PyData.canLayAll0, PyData.depthAll, PyData.showableAll, PyData.hasDictAll, deeps, sizes]
  | t :: ts, h, ho => by
    simp only [oks] at ho
    obtain ⟨i1, i2, i3, i4, i5⟩ := dat_facts t (fun m hm => h m (by simp [nmss, hm])) ho.1
    obtain ⟨j1, j2, j3, j4, j5⟩ := dats_facts ts (fun m hm => h m (by simp [nmss, hm])) ho.2
    simp only [dats, PyData.canLayAll0, PyData.depthAll, PyData.showableAll, PyData.hasDictAll, deeps, sizes, i1, j1, i3, j3, i4, j4, List.map_cons, List.sum_cons]
    refine ⟨rfl, ?_, rfl, rfl, ?_⟩
    · omega
    · omega
end
theorem shows_plan {t : Tr} (h : ∀ n ∈ t.nms, nameOk n) (ho : t.ok) (hd : t.deep ≤ 12) (hs : t.size ≤ 600) : shows t.dat := by
  obtain ⟨i1, i2, i3, i4, i5⟩ := dat_facts t h ho
  exact ⟨i3, i4, by omega, by omega⟩
/-! ### what waits: a tree with the path around it -/
def QV (H : Hp) (v : V) (r : Tr × List Str) : Prop := ∃ a pa x, v = .ref a ∧ H a = some (.tup [x, .ref pa]) ∧ TrV H x r.1 ∧ H pa = some (.tup (r.2.map V.str))
inductive Queue (H : Hp) : List V → List (Tr × List Str) → Prop
  | nil : Queue H [] []
  | cons {v : V} {vs : List V} {r : Tr × List Str} {rs : List (Tr × List Str)} : QV H v r → Queue H vs rs → Queue H (v :: vs) (r :: rs)
theorem QV.tk {H H' : Hp} {v : V} {r : Tr × List Str} (k : TK H H') (h : QV H v r) : QV H' v r := by
  obtain ⟨a, pa, x, e, h1, h2, h3⟩ := h
  exact ⟨a, pa, x, e, k _ _ h1, trv_tk k _ _ h2, k _ _ h3⟩
theorem Queue.tk {H H' : Hp} (k : TK H H') : ∀ {vs : List V} {rs : List (Tr × List Str)}, Queue H vs rs → Queue H' vs rs
  | _, _, .nil => .nil
  | _, _, .cons a b => .cons (a.tk k) (b.tk k)
theorem Queue.app {H : Hp} : ∀ {vs us : List V} {rs qs : List (Tr × List Str)}, Queue H vs rs → Queue H us qs → Queue H (vs ++ us) (rs ++ qs)
  | _, _, _, _, .nil, h => h
  | _, _, _, _, .cons a b, h => .cons a (b.app h)
theorem Queue.len {H : Hp} : ∀ {vs : List V} {rs : List (Tr × List Str)}, Queue H vs rs → vs.length = rs.length
  | _, _, .nil => rfl
  | _, _, .cons _ t => by rw [List.length_cons, List.length_cons, t.len]
/-- all rows that what waits gives -/
def due : List (Tr × List Str) → List Rw
  | [] => []
  | (t, p) :: r => t.told p ++ due r
def loadQ : List (Tr × List Str) → Nat
  | [] => 0
  | (t, _) :: r => t.size + loadQ r
def fine : List (Tr × List Str) → Prop
  | [] => True
  | (t, p) :: r => ((∀ n ∈ t.nms, nameOk n) ∧ t.ok ∧ p.length + t.deep ≤ 12 ∧ (∀ n ∈ p, nameOk n)) ∧ fine r
theorem due_members : ∀ (ms : List Tr) (p : List Str) (r : List (Tr × List Str)), due (ms.map (fun m => (m, p)) ++ r) = tolds ms p ++ due r
  | [], p, r => by simp [tolds]
  | m :: ms, p, r => by simp [tolds, due, due_members ms p r]
theorem loadQ_members : ∀ (ms : List Tr) (p : List Str) (r : List (Tr × List Str)), loadQ (ms.map (fun m => (m, p)) ++ r) = sizes ms + loadQ r
  | [], p, r => by simp [sizes]
  | m :: ms, p, r => by simp [sizes, loadQ, loadQ_members ms p r]; omega
theorem fine_members : ∀ {ms : List Tr} {p : List Str} {r : List (Tr × List Str)}, (∀ n ∈ nmss ms, nameOk n) → oks ms → p.length + deeps ms ≤ 12 → (∀ n ∈ p, nameOk n) → fine r → fine (ms.map (fun m => (m, p)) ++ r)
  | [], _, _, _, _, _, _, h => h
  | m :: ms, p, r, h1, h2, h3, h4, h5 => by
    simp only [oks] at h2
    simp only [deeps] at h3
    refine ⟨⟨fun n hn => h1 n (by simp [nmss, hn]), h2.1, by omega, h4⟩, fine_members (fun n hn => h1 n (by simp [nmss, hn])) h2.2 (by omega) h4 h5⟩
def datQ : List (Tr × List Str) → List PyData
  | [] => []
  | (t, p) :: r => .tuple [t.dat, .tuple (p.map PyData.str)] :: datQ r
theorem queue_dp {K : PySem.W.Frag} {H : Hp} : ∀ {vs : List V} {rs : List (Tr × List Str)}, Queue H vs rs → DpAll K H vs (datQ rs)
  | _, _, .nil => .nil
  | _, (t, p) :: _, .cons h b => by
    obtain ⟨a, pa, x, rfl, h1, h2, h3⟩ := h
    exact .cons (.tup (st_of h1) (.cons (trv_dp t x h2) (.cons (.tup (st_of h3) (dpa_strs p)) .nil))) (queue_dp b)
theorem lay_strs : ∀ {p : List Str}, (∀ n ∈ p, nameOk n) → PyData.canLayAll0 (p.map PyData.str) = true ∧ PyData.depthAll (p.map PyData.str) = 0
  | [], _ => by simp [PyData.canLayAll0, PyData.depthAll]
  | n :: p, h => by
    have i := lay_strs (p := p) (fun m hm => h m (List.mem_cons_of_mem _ hm))
    simp [PyData.canLayAll0, PyData.canLay0, PyData.depthAll, PyData.depth, ok_lay (h n (List.mem_cons_self ..)), i.1, i.2]
theorem queue_lay : ∀ {q : List (Tr × List Str)}, fine q → PyData.canLayAll0 (datQ q) = true ∧ PyData.depthAll (datQ q) ≤ 30
  | [], _ => by simp [datQ, PyData.canLayAll0, PyData.depthAll]
  | (t, p) :: r, h => by
    obtain ⟨⟨h1, h2, h3, h4⟩, h5⟩ := h
    obtain ⟨i1, i2, _⟩ := dat_facts t h1 h2
    obtain ⟨j1, j2⟩ := lay_strs h4
    obtain ⟨k1, k2⟩ := queue_lay h5
    simp only [datQ, PyData.canLayAll0, PyData.canLay0, PyData.depthAll, PyData.depth, i1, j1, k1, j2]
    refine ⟨rfl, ?_⟩
    omega
theorem shaped_queue {q : List (Tr × List Str)} (h : fine q) : SeqAt.shaped (.list (datQ q)) = true := by
  obtain ⟨a, b⟩ := queue_lay h
  have c : PyData.canLay0 (.list (datQ q)) = true := by
    simp only [PyData.canLay0]
    exact a
  have d : PyData.depth (.list (datQ q)) ≤ 64 := by
    simp only [PyData.depth]
    omega
  unfold SeqAt.shaped
  rw [c, decide_eq_true d]
  rfl
theorem ev_neQueue {K : PySem.W.Frag} {σ : L2.St} {H : Hp} {ta : TE} {l : Addr} {vs : List V} {q : List (Tr × List Str)} (ha : Ev ta σ H (.ref l)) (hl : H l = some (.lst vs)) (hq : Queue H vs q) (hf : fine q) : Ev (tOp (rNeD K) ta (tLst tNil)) σ H (.bl (!q.isEmpty)) := by
  refine ev_opL (xs := []) ha (el_lst ea_nil (by decide)) fun p H1 hp e1 H2 e2 Q next => ?_
  refine ⟨.list (datQ q), .list [], .lst (sq_of ((e1.trans e2) _ _ hl)) (queue_dp (hq.tk (TK.ex (e1.trans e2)))), .lst (sq_of (e2 _ _ hp)) .nil, shaped_queue hf, by decide +kernel, ?_⟩
  have e : PyData.eqv (.list (datQ q)) (.list []) = q.isEmpty := by
    simp only [PyData.eqv, eqv_nil]
    cases q <;> rfl
  rw [e]
  exact next H2 (Ex.refl H2)
theorem nodup_rev {α : Type} {l : List α} (h : l.reverse.Nodup) : l.Nodup := by
  unfold List.Nodup at h ⊢
  rw [List.pairwise_reverse] at h
  exact h.imp Ne.symm
theorem s_asgP {te : TE} {D : Ends} {σ : L2.St} {H : Hp} {i : Nat} (h : te σ H fun v H1 => D.nx (σ.set i (some v)) H1) : tAsg te (gName i) D σ H := h
theorem size_pos (t : Tr) : 1 ≤ t.size := by
  cases t <;> simp [Tr.size]
theorem len_sizes : ∀ ts : List Tr, ts.length ≤ sizes ts
  | [] => by simp
  | t :: ts => by
    have := len_sizes ts
    have := size_pos t
    simp only [List.length_cons, sizes]
    omega
theorem len_load : ∀ q : List (Tr × List Str), q.length ≤ loadQ q
  | [] => by simp
  | (t, p) :: q => by
    have := len_load q
    have := size_pos t
    simp only [List.length_cons, loadQ]
    omega
mutual
theorem told_path : ∀ (t : Tr) (p : List Str) (r : Rw), r ∈ t.told p → (∀ x ∈ r.2.2, x ∈ p ∨ x ∈ t.nms) ∧ r.2.2.length ≤ p.length + t.deep
  | .hand n, p, r, h => by
    simp only [Tr.told, List.mem_singleton] at h
    subst h
    exact ⟨fun x hx => Or.inl hx, by simp⟩
  | .grp n b ms, p, r, h => by
    simp only [Tr.told, List.mem_cons] at h
    rcases h with rfl | h
    · exact ⟨fun x hx => Or.inl hx, by simp⟩
    · obtain ⟨h1, h2⟩ := tolds_path ms (n :: p) r h
      refine ⟨fun x hx => ?_, by simp only [List.length_cons, Tr.deep] at h2 ⊢; omega⟩
      rcases h1 x hx with h | h
      · rcases List.mem_cons.mp h with rfl | h
        · exact Or.inr (by simp [Tr.nms])
        · exact Or.inl h
      · exact Or.inr (by simp [Tr.nms, h])
theorem tolds_path : ∀ (ts : List Tr) (p : List Str) (r : Rw), r ∈ tolds ts p → (∀ x ∈ r.2.2, x ∈ p ∨ x ∈ nmss ts) ∧ r.2.2.length ≤ p.length + deeps ts
  | [], p, r, h => by simp [tolds] at h
  | t :: ts, p, r, h => by
    simp only [tolds, List.mem_append] at h
    rcases h with h | h
    · obtain ⟨h1, h2⟩ := told_path t p r h
      refine ⟨fun x hx => ?_, by simp only [deeps]; omega⟩
      rcases h1 x hx with h | h
      · exact Or.inl h
      · exact Or.inr (by simp [nmss, h])
    · obtain ⟨h1, h2⟩ := tolds_path ts p r h
      refine ⟨fun x hx => ?_, by simp only [deeps]; omega⟩
      rcases h1 x hx with h | h
      · exact Or.inl h
      · exact Or.inr (by simp [nmss, h])
end
theorem told_mem {t : Tr} {p : List Str} {r : Rw} (h : r ∈ t.told p) : r.1 ∈ t.nms := by
  rw [← told_nms t p]
  exact List.mem_map.mpr ⟨r, h, rfl⟩
/-- with all names unlike, a row is found by its name -/
theorem find_row {rs : List Rw} (h : (rs.map (·.1)).Nodup) {i : Nat} {r : Rw} (hi : rs[i]? = some r) : rs.find? (fun q => decide (q.1 = r.1)) = some r := by
  refine find_at (fun x hx => ?_) hi (decide_eq_true rfl)
  refine decide_eq_false fun e => ?_
  obtain ⟨j, hj⟩ := List.getElem?_of_mem hx
  have hji : j < i := by
    have := (List.getElem?_eq_some_iff.mp hj).1
    rw [List.length_take] at this
    omega
  have hj2 : rs[j]? = some x := by
    rw [List.getElem?_take_of_lt hji] at hj
    exact hj
  have h1 : (rs.map (·.1))[j]? = some r.1 := by rw [List.getElem?_map, hj2, ← e]; rfl
  have h2 : (rs.map (·.1))[i]? = some r.1 := by rw [List.getElem?_map, hi]; rfl
  have h3 := (List.getElem?_eq_some_iff.mp h1)
  have h4 := (List.getElem?_eq_some_iff.mp h2)
  obtain ⟨l1, g1⟩ := h3
  obtain ⟨l2, g2⟩ := h4
  unfold List.Nodup at h
  exact (List.pairwise_iff_getElem.mp h) j i l1 l2 hji (g1.trans g2.symm)
def rTup (K : PySem.W.Frag) : List V → Hp → VK → Prop := fun xs H Q => ∃ p ys, xs = [.ref p] ∧ ((SqL K H p ys ∧ ∀ l, H l = none → Q (.ref l) (upd H l (.tup ys))) ∨ (SqT K H p ys ∧ Q (.ref p) H))
theorem tupleK {X : Cx} {K : PySem.W.Frag} (h : X.K = K) : CallR X (.type "tuple") (rTup K) := by subst h; exact call_tuple_of
end NL

/-! data with dicts in them (what a dict holds is left aside), and what a plan is among them -/
namespace NL
open PySem L2 Evl
mutual
inductive Dx (K : PySem.W.Frag) (H : Hp) : V → PyData → Prop
  | non : Dx K H .non .none
  | bl (b : Bool) : Dx K H (.bl b) (.bool b)
  | int (i : Int) : Dx K H (.int i) (.int i)
  | str (x : Str) : Dx K H (.str x) (.str x)
  | lst {a : Addr} {xs : List V} {ds : List PyData} : SqL K H a xs → DxAll K H xs ds → Dx K H (.ref a) (.list ds)
  | tup {a : Addr} {xs : List V} {ds : List PyData} : SqT K H a xs → DxAll K H xs ds → Dx K H (.ref a) (.tuple ds)
  | dct {a : Addr} {kvs : List (Key × V)} {ks : List (PyData × PyData)} : H a = some (.dK kvs) → Dx K H (.ref a) (.dict ks)
inductive DxAll (K : PySem.W.Frag) (H : Hp) : List V → List PyData → Prop
  | nil : DxAll K H [] []
  | cons {v : V} {vs : List V} {d : PyData} {ds : List PyData} : Dx K H v d → DxAll K H vs ds → DxAll K H (v :: vs) (d :: ds)
end
mutual
theorem dx_of {K : PySem.W.Frag} {H H' : Hp} (el : ∀ a xs, SqL K H a xs → SqL K H' a xs) (et : ∀ a xs, SqT K H a xs → SqT K H' a xs) (ed : ∀ a kvs, H a = some (.dK kvs) → ∃ kvs', H' a = some (.dK kvs')) : ∀ (d : PyData) (v : V), Dx K H v d → Dx K H' v d
  | .none, _, h => by cases h; exact .non
  | .bool b, _, h => by cases h; exact .bl b
  | .int i, _, h => by cases h; exact .int i
  | .str x, _, h => by cases h; exact .str x
  | .list ds, _, h => by
    cases h with
    | lst hs ha => exact .lst (el _ _ hs) (dxa_of el et ed ds _ ha)
  | .tuple ds, _, h => by
    cases h with
    | tup hs ha => exact .tup (et _ _ hs) (dxa_of el et ed ds _ ha)
  | .dict kvs, _, h => by
    cases h with
    | dct hd =>
      obtain ⟨kvs', hd'⟩ := ed _ _ hd
      exact .dct hd'
theorem dxa_of {K : PySem.W.Frag} {H H' : Hp} (el : ∀ a xs, SqL K H a xs → SqL K H' a xs) (et : ∀ a xs, SqT K H a xs → SqT K H' a xs) (ed : ∀ a kvs, H a = some (.dK kvs) → ∃ kvs', H' a = some (.dK kvs')) : ∀ (ds : List PyData) (vs : List V), DxAll K H vs ds → DxAll K H' vs ds
  | [], _, h => by cases h; exact .nil
  | d :: ds, _, h => by
    cases h with
    | cons h1 h2 => exact .cons (dx_of el et ed d _ h1) (dxa_of el et ed ds _ h2)
end
theorem dx_mono {K : PySem.W.Frag} {H H' : Hp} {v : V} {d : PyData} (e : Ex H H') (h : Dx K H v d) : Dx K H' v d := dx_of (fun _ _ => ex_l e) (fun _ _ => ex_t e) (fun a kvs z => ⟨kvs, e _ _ z⟩) d v h
theorem dxa_mono {K : PySem.W.Frag} {H H' : Hp} {vs : List V} {ds : List PyData} (e : Ex H H') (h : DxAll K H vs ds) : DxAll K H' vs ds := dxa_of (fun _ _ => ex_l e) (fun _ _ => ex_t e) (fun a kvs z => ⟨kvs, e _ _ z⟩) ds vs h
mutual
theorem dx_dp {K : PySem.W.Frag} {H : Hp} : ∀ (d : PyData) (v : V), Dp K H v d → Dx K H v d
  | .none, _, h => by cases h; exact .non
  | .bool b, _, h => by cases h; exact .bl b
  | .int i, _, h => by cases h; exact .int i
  | .str x, _, h => by cases h; exact .str x
  | .list ds, _, h => by
    cases h with
    | lst hs ha => exact .lst hs (dxa_dp ds _ ha)
  | .tuple ds, _, h => by
    cases h with
    | tup hs ha => exact .tup hs (dxa_dp ds _ ha)
  | .dict kvs, _, h => by cases h
theorem dxa_dp {K : PySem.W.Frag} {H : Hp} : ∀ (ds : List PyData) (vs : List V), DpAll K H vs ds → DxAll K H vs ds
  | [], _, h => by cases h; exact .nil
  | d :: ds, _, h => by
    cases h with
    | cons h1 h2 => exact .cons (dx_dp d _ h1) (dxa_dp ds _ h2)
end
theorem dxa_len {K : PySem.W.Frag} {H : Hp} : ∀ {vs : List V} {ds : List PyData}, DxAll K H vs ds → vs.length = ds.length
  | _, _, .nil => rfl
  | _, _, .cons _ t => by rw [List.length_cons, List.length_cons, dxa_len t]
theorem dxa_get {K : PySem.W.Frag} {H : Hp} : ∀ {vs : List V} {ds : List PyData} {i : Nat} {v : V}, DxAll K H vs ds → vs[i]? = some v → ∃ d, ds[i]? = some d ∧ Dx K H v d
  | _, _, _, _, .nil, e => by simp at e
  | _, _, 0, _, .cons r _, e => by simp at e; subst e; exact ⟨_, rfl, r⟩
  | _, _, i + 1, v, .cons _ t, e => by
    obtain ⟨d, h1, h2⟩ := dxa_get (i := i) (v := v) t (by simpa using e)
    exact ⟨d, by simpa using h1, h2⟩
theorem dx_ty {K : PySem.W.Frag} {H : Hp} {v : V} {d : PyData} (h : Dx K H v d) : TyX K H v (.type (tyN d)) := by
  cases h with
  | non => exact .base .non
  | bl b => exact .base (.bl b)
  | int i => exact .base (.int i)
  | str x => exact .base (.str x)
  | lst hs _ =>
    rcases hs with (h | ⟨o, h⟩) | ⟨o, its, n, h, c, _⟩
    · exact .base (.lst h)
    · exact .base (.frz h)
    · exact .kList h c
  | tup hs _ =>
    rcases hs with (h | ⟨o, h⟩) | ⟨o, its, n, h, c, _⟩
    · exact .base (.tup h)
    · exact .fTuple h
    · exact .kTuple h c
  | dct h => exact .base (.dK h)
theorem ev_isX {K : PySem.W.Frag} {σ : L2.St} {H : Hp} {ta : TE} {x : V} {d : PyData} {T : String} {b : Bool} (ha : Ev ta σ H x) (hd : Dx K H x d) (hk : kitB (tyN d) T = some b) : Ev (tCB (rIsi K) (tCons ta (tCons (tC (.ty T)) tNil))) σ H (.bl b) := fun H1 e Q q =>
  ha H1 e _ fun H2 e2 => ⟨x, .ty T, _, _, b, rfl, .ty T, dx_ty (dx_mono (e.trans e2) hd), kit_ty hk, q H2 e2⟩
/-! ### names, plans -/
def nameB (s : Str) : Bool := decide (1 ≤ s.length) && decide (s.length ≤ 8) && s.cps.toList.all fun c => decide (c ∈ ("abcdefghijklmnopqrstuvwxyz" : Str).cps.toList)
def isNm : PyData → Bool
  | .str s => nameB s
  | _ => false
def fitN (d : PyData) (seen : List Str) : Option (List Str) := match d with
  | .str s => if nameB s = true ∧ s ∉ seen then some (seen ++ [s]) else none
  | _ => none
mutual
def fitM : PyData → List Str → Option (List Str)
  | .str s, seen => if nameB s = true ∧ s ∉ seen then some (seen ++ [s]) else none
  | .tuple [.str n, .int b, .tuple ms], seen => if 1 ≤ b ∧ ms ≠ [] ∧ nameB n = true ∧ n ∉ seen then fitMs ms (seen ++ [n]) else none
  | _, _ => none
def fitMs : List PyData → List Str → Option (List Str)
  | [], seen => some seen
  | d :: ds, seen => match fitM d seen with
    | none => none
    | some s => fitMs ds s
end
/-- as a group by itself -/
def fitG (d : PyData) (seen : List Str) : Option (List Str) := match d with
  | .str _ => none
  | d => fitM d seen
def planB (d : PyData) : Bool := (fitG d []).isSome
/-- what is a group by its form -/
def formB : PyData → Bool
  | .tuple [_, .int b, .tuple ms] => decide (1 ≤ b) && !ms.isEmpty
  | _ => false
mutual
def nodes : PyData → Nat
  | .tuple ds => nodess ds + 1
  | .list ds => nodess ds + 1
  | _ => 1
def nodess : List PyData → Nat
  | [] => 0
  | d :: ds => nodes d + nodess ds
end
/-- all but the dict at sd stays -/
def KD (sd : Addr) (H H' : Hp) : Prop := ∀ a o, a ≠ sd → H a = some o → H' a = some o
theorem KD.trans {sd : Addr} {H H1 H2 : Hp} (a : KD sd H H1) (b : KD sd H1 H2) : KD sd H H2 := fun x o n e => b x o n (a x o n e)
theorem KD.ex {sd : Addr} {H H1 : Hp} (a : Ex H H1) : KD sd H H1 := fun x o _ e => a x o e
abbrev ky (n : Str) : Key × V := (Sum.inr n, .bl true)
theorem kd_rd {sd : Addr} {H H' : Hp} {kvs : List (Key × V)} (h : H sd = some (.dK kvs)) (k : KD sd H H') {a : Addr} {u : HO} (hu : ∀ z, u ≠ .dK z) (r : Rd H a u) : Rd H' a u := by
  rcases r with r | ⟨o, r⟩
  · exact Or.inl (k _ _ (fun z => by subst z; rw [h] at r; cases r; exact hu _ rfl) r)
  · exact Or.inr ⟨o, k _ _ (fun z => by subst z; rw [h] at r; cases r) r⟩
theorem dx_kd {K : PySem.W.Frag} {sd : Addr} {H H' : Hp} {kvs kvs' : List (Key × V)} (h : H sd = some (.dK kvs)) (h' : H' sd = some (.dK kvs')) (k : KD sd H H') {v : V} {d : PyData} (x : Dx K H v d) : Dx K H' v d := by
  refine dx_of (fun a xs s => ?_) (fun a xs s => ?_) (fun a ks s => ?_) d v x
  · rcases s with s | s
    · exact Or.inl (kd_rd h k (fun z e => by cases e) s)
    · exact Or.inr s
  · rcases s with s | s
    · exact Or.inl (kd_rd h k (fun z e => by cases e) s)
    · exact Or.inr s
  · by_cases e : a = sd
    · subst e
      exact ⟨_, h'⟩
    · exact ⟨ks, k _ _ e s⟩
theorem st_kd {K : PySem.W.Frag} {sd : Addr} {H H' : Hp} {kvs : List (Key × V)} (h : H sd = some (.dK kvs)) (k : KD sd H H') {a : Addr} {xs : List V} (s : SqT K H a xs) : SqT K H' a xs := by
  rcases s with s | s
  · exact Or.inl (kd_rd h k (fun z e => by cases e) s)
  · exact Or.inr s
theorem val_ky {n : Str} : ∀ {ns : List Str}, (valV (ns.map ky) (Sum.inr n)).isSome = decide (n ∈ ns)
  | [] => by simp [valV]
  | m :: ns => by
    by_cases e : m = n
    · subst e
      rw [List.map_cons, valV_pos rfl]
      simp
    · rw [List.map_cons, valV_neg (fun z => e (Sum.inr.inj z)), val_ky]
      have : decide (n ∈ m :: ns) = decide (n ∈ ns) := decide_eq_decide.mpr ⟨fun h => by rcases List.mem_cons.mp h with h | h; exact absurd h.symm e; exact h, fun h => List.mem_cons_of_mem _ h⟩
      rw [this]
theorem put_ky {n : Str} {ns : List Str} (h : n ∉ ns) : putK (ns.map ky) (Sum.inr n) (.bl true) = (ns ++ [n]).map ky := by
  unfold putK
  rw [valV_any, val_ky, decide_eq_false h]
  simp
/-- a comprehension over a text's signs -/
theorem el_lcS {σ : L2.St} {H : Hp} {z : Str} {tl te : TE} {j : Nat} {vs : List Nat} (g : Nat → V) (src : Ev tl σ H (.str z)) (few : z.cps.size ≤ 40000) (clean : ∀ x, wipe ((wipe σ vs).set j (some x)) vs = wipe σ vs)
    (give : ∀ (i : Nat) (c : Nat) H1, Ex H H1 → z.cps[i]? = some c → Ev te ((wipe σ vs).set j (some (.str ⟨#[c]⟩))) H1 (g i)) : EvL (tLc (iStr tl) (gName j) tYes te vs) σ H ((List.range z.cps.size).map g) := by
  intro H0 e0 Q next
  refine src H0 e0 _ fun H1 e1 => ?_
  refine ⟨z, rfl, fun made fresh => ?_⟩
  refine lc_it (walk_str (z := z)) (Cw H1 (fun _ => true) g made) ⟨fresh, Ex.new fresh, upd_same⟩ (fun _ _ _ _ => trivial) ?turn ?done
  case turn =>
    intro i x H2 H3 lt inv y
    obtain ⟨rfl, c, hc, rfl⟩ := y
    exact ⟨clean _, cw_turn inv (by omega) et_yes (fun _ => give i c H1 (e0.trans e1) hc)⟩
  case done =>
    intro H2 inv
    have h2 := inv.2.2
    rw [given_all] at h2
    exact next made H2 (fresh_back e1 inv.1) (e1.trans inv.2.1) h2
/-- a <= b <= c -/
theorem ev_chain2 {σ : L2.St} {H : Hp} {ta tb tc : TE} {f g : Int → Int → Bool} {i j k : Int} (ha : Ev ta σ H (.int i)) (hb : Ev tb σ H (.int j)) (hc : Ev tc σ H (.int k)) : Ev (tChain (rI0 fun i j => .bl (f i j)) (rI0 fun i j => .bl (g i j)) ta tb tc) σ H (.bl (f i j && g j k)) := by
  intro H1 e Q q
  refine ha H1 e _ fun H2 e2 => hb H2 (e.trans e2) _ fun H3 e3 => ⟨i, j, rfl, rfl, f i j, rfl, ?_⟩
  cases hf : f i j with
  | true =>
    rw [if_pos rfl]
    refine hc H3 ((e.trans e2).trans e3) _ fun H4 e4 => ⟨j, k, rfl, rfl, ?_⟩
    have h := q H4 ((e2.trans e3).trans e4)
    rw [hf, Bool.true_and] at h
    exact h
  | false =>
    rw [if_neg (by decide)]
    have h := q H3 (e2.trans e3)
    rw [hf, Bool.false_and] at h
    exact h
mutual
def shorts : PyData → Prop
  | .str s => s.length ≤ 1000000
  | .tuple ds => shortss ds
  | .list ds => shortss ds
  | _ => True
def shortss : List PyData → Prop
  | [] => True
  | d :: ds => shorts d ∧ shortss ds
end
theorem shortss_mem : ∀ {ds : List PyData} {i : Nat} {d : PyData}, shortss ds → ds[i]? = some d → shorts d
  | [], _, _, _, h => by simp at h
  | x :: ds, 0, d, hs, h => by simp at h; subst h; simp only [shortss] at hs; exact hs.1
  | x :: ds, i + 1, d, hs, h => by simp only [shortss] at hs; exact shortss_mem (i := i) hs.2 (by simpa using h)
theorem nodess_take : ∀ {ds : List PyData} {i : Nat} {d : PyData}, ds[i]? = some d → nodess (ds.take (i + 1)) = nodess (ds.take i) + nodes d
  | [], _, _, h => by simp at h
  | x :: ds, 0, d, h => by simp at h; subst h; simp [nodess]
  | x :: ds, i + 1, d, h => by
    have := nodess_take (ds := ds) (i := i) (d := d) (by simpa using h)
    simp only [List.take_succ_cons, nodess]
    omega
theorem nodess_le : ∀ (ds : List PyData) (i : Nat), nodess (ds.take i) ≤ nodess ds
  | [], i => by simp [nodess]
  | x :: ds, 0 => by simp [nodess]
  | x :: ds, i + 1 => by
    have := nodess_le ds i
    simp only [List.take_succ_cons, nodess]
    omega
theorem depth_mem : ∀ {ds : List PyData} {i : Nat} {d : PyData}, ds[i]? = some d → d.depth ≤ PyData.depthAll ds
  | [], _, _, h => by simp at h
  | x :: ds, 0, d, h => by simp at h; subst h; simp only [PyData.depthAll]; exact Nat.le_max_left _ _
  | x :: ds, i + 1, d, h => by
    have := depth_mem (ds := ds) (i := i) (d := d) (by simpa using h)
    simp only [PyData.depthAll]
    exact Nat.le_trans this (Nat.le_max_right _ _)
theorem fitMs_take : ∀ {ds : List PyData} {i : Nat} {d : PyData} {s r : List Str}, ds[i]? = some d → fitMs (ds.take i) s = some r → fitMs (ds.take (i + 1)) s = fitM d r
  | [], _, _, _, _, h, _ => by simp at h
  | x :: ds, 0, d, s, r, h, hf => by
    simp at h
    subst h
    simp only [List.take_zero, fitMs, Option.some.injEq] at hf
    subst hf
    simp only [List.take_succ_cons, List.take_zero, fitMs]
    cases fitM x s <;> rfl
  | x :: ds, i + 1, d, s, r, h, hf => by
    simp only [List.take_succ_cons, fitMs] at hf ⊢
    cases hx : fitM x s with
    | none => rw [hx] at hf; cases hf
    | some q =>
      rw [hx] at hf
      exact fitMs_take (ds := ds) (i := i) (by simpa using h) hf
theorem fitMs_stop : ∀ {ds : List PyData} {i : Nat} {s : List Str}, fitMs (ds.take i) s = none → fitMs ds s = none
  | [], i, s, h => by simpa using h
  | x :: ds, 0, s, h => by simp [fitMs] at h
  | x :: ds, i + 1, s, h => by
    simp only [List.take_succ_cons, fitMs] at h ⊢
    cases hx : fitM x s with
    | none => rfl
    | some q =>
      rw [hx] at h
      exact fitMs_stop (ds := ds) (i := i) h
theorem fit_form {d : PyData} {s : List Str} (h : formB d = false) : fitG d s = none := by
  unfold fitG
  split
  · rfl
  · unfold fitM
    split
    · rename_i hn; exact absurd rfl (hn _)
    · rename_i n b ms seen
      simp only [formB, Bool.and_eq_false_iff] at h
      rw [if_neg]
      intro ⟨h1, h2, _⟩
      rcases h with h | h
      · simp at h; omega
      · simp at h; exact h2 h
    · rfl
/-- how a look with names seen ends -/
def Post (sd : Addr) (ns : List Str) (N : Nat) (r : Option (List Str)) (H : Hp) (Q : VK) : Prop := ∀ (b : Bool) (ms : List Str) (H' : Hp), KD sd H H' → H' sd = some (.dK (ms.map ky)) → (b = true → r = some ms ∧ ms.length ≤ ns.length + N) → (b = false → r = none) → Q (.bl b) H'
theorem q_notB {te : TE} {tu tz : TS} {D : Ends} {σ : L2.St} {H : Hp} (h : te σ H fun x H1 => ∃ c, x = .bl c ∧ if (!c) = true then tu { D with nx := tz D } σ H1 else tz D σ H1) : tSeq (tIfS (tNot (tB te)) tu tNext) tz D σ H := h
theorem s_notB {te : TE} {tu : TS} {D : Ends} {σ : L2.St} {H : Hp} (h : te σ H fun x H1 => ∃ c, x = .bl c ∧ if (!c) = true then tu D σ H1 else D.nx σ H1) : tIfS (tNot (tB te)) tu tNext D σ H := h
theorem dxa3 {K : PySem.W.Frag} {H : Hp} {xs : List V} {d f g : PyData} (h : DxAll K H xs [d, f, g]) : ∃ x y z, xs = [x, y, z] ∧ Dx K H x d ∧ Dx K H y f ∧ Dx K H z g := by
  cases h with
  | cons h1 t =>
    cases t with
    | cons h2 t =>
      cases t with
      | cons h3 t =>
        cases t
        exact ⟨_, _, _, rfl, h1, h2, h3⟩
end NL

/-! all names of a plan, as a datum -/
namespace NL
open PySem L2 Evl
mutual
def allM : PyData → Option (List Str)
  | .str s => if nameB s = true then some [s] else none
  | .tuple [.str n, .int b, .tuple ms] => if 1 ≤ b ∧ ms ≠ [] ∧ nameB n = true then (match allMs ms with | none => none | some r => some (n :: r)) else none
  | _ => none
def allMs : List PyData → Option (List Str)
  | [] => some []
  | d :: ds => match allM d with
    | none => none
    | some a => match allMs ds with
      | none => none
      | some b => some (a ++ b)
end
def allG (d : PyData) : Option (List Str) := match d with
  | .str _ => none
  | d => allM d
def within (o : Option (List Str)) (seen : List Str) : Option (List Str) := match o with
  | none => none
  | some ns => if ns.Nodup ∧ ∀ n ∈ ns, n ∉ seen then some (seen ++ ns) else none
mutual
theorem fit_all (d : PyData) (seen : List Str) : fitM d seen = within (allM d) seen := by
  unfold fitM allM
  split
  · rename_i s
    simp only
    by_cases h1 : nameB s = true
    · by_cases h2 : s ∈ seen
      · rw [if_neg (fun h => h.2 h2), if_pos h1]
        simp only [within]
        rw [if_neg (fun h => h.2 s (List.mem_singleton.mpr rfl) h2)]
      · rw [if_pos ⟨h1, h2⟩, if_pos h1]
        simp only [within]
        rw [if_pos ⟨by simp, fun n hn => by rw [List.mem_singleton.mp hn]; exact h2⟩]
    · rw [if_neg (fun h => h1 h.1), if_neg h1]
      rfl
  · rename_i n b ms
    simp only
    by_cases h1 : 1 ≤ b ∧ ms ≠ [] ∧ nameB n = true
    · rw [if_pos h1]
      by_cases h2 : n ∈ seen
      · rw [if_neg (fun h => h.2.2.2 h2)]
        cases hm : allMs ms with
        | none => rfl
        | some r =>
          simp only [within]
          rw [if_neg (fun h => h.2 n (List.mem_cons_self ..) h2)]
      · rw [if_pos ⟨h1.1, h1.2.1, h1.2.2, h2⟩, fits_all ms (seen ++ [n])]
        cases hm : allMs ms with
        | none => rfl
        | some r =>
          simp only [within]
          by_cases h3 : r.Nodup ∧ ∀ x ∈ r, x ∉ seen ++ [n]
          · rw [if_pos h3, if_pos]
            · simp
            · refine ⟨List.nodup_cons.mpr ⟨fun z => h3.2 n z (by simp), h3.1⟩, fun x hx => ?_⟩
              rcases List.mem_cons.mp hx with rfl | hx
              · exact h2
              · exact fun z => h3.2 x hx (List.mem_append_left _ z)
          · rw [if_neg h3, if_neg]
            intro h4
            have h5 := List.nodup_cons.mp h4.1
            refine h3 ⟨h5.2, fun x hx z => ?_⟩
            rcases List.mem_append.mp z with z | z
            · exact h4.2 x (List.mem_cons_of_mem _ hx) z
            · rw [List.mem_singleton.mp z] at hx
              exact h5.1 hx
    · rw [if_neg (fun h => h1 ⟨h.1, h.2.1, h.2.2.1⟩), if_neg h1]
      rfl
  · rename_i h1 h2
    split
    · exact absurd rfl (h1 _)
    · exact absurd rfl (h2 _ _ _)
    · rfl
termination_by sizeOf d
theorem fits_all (ds : List PyData) (seen : List Str) : fitMs ds seen = within (allMs ds) seen := by
  cases ds with
  | nil =>
    simp only [fitMs, allMs, within]
    rw [if_pos ⟨by simp, fun n hn => by cases hn⟩]
    simp
  | cons d ds =>
    simp only [fitMs, allMs]
    rw [fit_all d seen]
    cases ha : allM d with
    | none => rfl
    | some a =>
      simp only [within]
      by_cases h1 : a.Nodup ∧ ∀ n ∈ a, n ∉ seen
      · rw [if_pos h1]
        simp only
        rw [fits_all ds (seen ++ a)]
        cases hb : allMs ds with
        | none => rfl
        | some b =>
          simp only [within]
          by_cases h2 : b.Nodup ∧ ∀ n ∈ b, n ∉ seen ++ a
          · rw [if_pos h2, if_pos]
            · simp
            · refine ⟨List.nodup_append.mpr ⟨h1.1, h2.1, fun x hx y hy e => ?_⟩, fun x hx => ?_⟩
              · subst e
                exact h2.2 x hy (List.mem_append_right _ hx)
              · rcases List.mem_append.mp hx with hx | hx
                · exact h1.2 x hx
                · exact fun z => h2.2 x hx (List.mem_append_left _ z)
          · rw [if_neg h2, if_neg]
            intro h3
            have h4 := List.nodup_append.mp h3.1
            refine h2 ⟨h4.2.1, fun x hx z => ?_⟩
            rcases List.mem_append.mp z with z | z
            · exact h3.2 x (List.mem_append_right _ hx) z
            · exact h4.2.2 x z x hx rfl
      · rw [if_neg h1]
        simp only
        cases hb : allMs ds with
        | none => rfl
        | some b =>
          simp only
          rw [if_neg]
          intro h3
          exact h1 ⟨(List.nodup_append.mp h3.1).1, fun x hx => h3.2 x (List.mem_append_left _ hx)⟩
termination_by sizeOf ds
end
def uniqueB (o : Option (List Str)) : Bool := match o with
  | none => false
  | some ns => decide ns.Nodup
theorem plan_unique (d : PyData) : planB d = uniqueB (allG d) := by
  have main : ∀ d, (fitM d []).isSome = uniqueB (allM d) := fun d => by
    rw [fit_all]
    cases allM d with
    | none => rfl
    | some ns =>
      simp only [within, uniqueB]
      by_cases h : ns.Nodup
      · rw [if_pos ⟨h, fun n _ => by simp⟩, decide_eq_true h]
        rfl
      · rw [if_neg (fun z => h z.1), decide_eq_false h]
        rfl
  cases d with
  | str s => rfl
  | _ => exact main _
mutual
theorem all_len (d : PyData) (ns : List Str) (h : allM d = some ns) : ns.length ≤ nodes d := by
  unfold allM at h
  split at h
  · split at h
    · cases h
      simp [nodes]
    · cases h
  · rename_i n b ms
    split at h
    · cases hm : allMs ms with
      | none => rw [hm] at h; cases h
      | some r =>
        rw [hm] at h
        cases h
        have := alls_len ms r hm
        simp only [nodes, nodess, List.length_cons]
        omega
    · cases h
  · cases h
termination_by sizeOf d
theorem alls_len (ds : List PyData) (ns : List Str) (h : allMs ds = some ns) : ns.length ≤ nodess ds := by
  cases ds with
  | nil => simp only [allMs] at h; cases h; simp
  | cons d ds =>
    simp only [allMs] at h
    cases ha : allM d with
    | none => rw [ha] at h; cases h
    | some a =>
      rw [ha] at h
      simp only at h
      cases hb : allMs ds with
      | none => rw [hb] at h; cases h
      | some b =>
        rw [hb] at h
        cases h
        have := all_len d a ha
        have := alls_len ds b hb
        simp only [nodess, List.length_append]
        omega
termination_by sizeOf ds
end
theorem alls_take : ∀ {ds : List PyData} {i : Nat} {d : PyData} {r : List Str}, ds[i]? = some d → allMs (ds.take i) = some r → allMs (ds.take (i + 1)) = match allM d with | none => none | some a => some (r ++ a)
  | [], _, _, _, h, _ => by simp at h
  | x :: ds, 0, d, r, h, hr => by
    simp at h
    subst h
    simp only [List.take_zero, allMs, Option.some.injEq] at hr
    subst hr
    simp only [List.take_succ_cons, List.take_zero, allMs]
    cases allM x <;> simp
  | x :: ds, i + 1, d, r, h, hr => by
    simp only [List.take_succ_cons, allMs] at hr ⊢
    cases hx : allM x with
    | none => rw [hx] at hr; cases hr
    | some a =>
      rw [hx] at hr
      simp only at hr ⊢
      cases hy : allMs (ds.take i) with
      | none => rw [hy] at hr; cases hr
      | some b =>
        rw [hy] at hr
        cases hr
        rw [alls_take (ds := ds) (i := i) (by simpa using h) hy]
        cases allM d <;> simp
theorem alls_stop : ∀ {ds : List PyData} {i : Nat}, allMs (ds.take i) = none → allMs ds = none
  | [], i, h => by simpa using h
  | x :: ds, 0, h => by simp [allMs] at h
  | x :: ds, i + 1, h => by
    simp only [List.take_succ_cons, allMs] at h ⊢
    cases hx : allM x with
    | none => rfl
    | some a =>
      rw [hx] at h
      simp only at h ⊢
      cases hy : allMs (ds.take i) with
      | none => rw [alls_stop hy]
      | some b => rw [hy] at h; cases h
theorem all_not {d : PyData} (h : isNm d = false) : allM d = allG d := by
  cases d with
  | str s =>
    simp only [isNm] at h
    unfold allM
    simp [allG, h]
  | _ => rfl
end NL

/-! a list that is extended by a tuple, a list as a test; the names of a plan from a pile of what waits -/
namespace NL
open PySem L2 Evl
theorem list_extend_tup (l : Addr) (items : Array Value) (n : Nat) (b : Addr) (o : Obj) (items2 : Array Value) (n2 : Nat) (hc : o.cls = .type "tuple") (hd : o.data = .seq items2 n2)
    (h0 : ¬(!items.isEmpty && Builtin.List.listTooLong (items.size + items2.size)) = true) (h1 : items.size ≤ sizeLine) (h2 : items.size + items2.size ≤ sizeLine + 1) :
    Meets (Builtin.«list.extend» ⟨[.ref l, .ref b], []⟩) (fun _ R s => s.heap.get? l = some ⟨.type "list", none, .seq items n, #[]⟩ ∧ s.heap.get? b = some o ∧ R (.ok (.ret Value.none)) { s with heap := s.heap.update l (Obj.mapSeq fun x => x ++ items2), toks := s.toks }) := by
  obtain ⟨c, dc, da, sl⟩ := o
  cases hc
  cases hd
  refine .of_wp fun prog w A R s h => ?_
  obtain ⟨hp, g, d, tk, os⟩ := s
  obtain ⟨hl, hb, h⟩ := h
  have f1 := AutoSeq1.idx_int
  have f2 := AutoSeq1.sub_tuple_tuple
  have f3 := AutoSeq1.sub_list_list
  have f4 := AutoSeq1.sub_tuple_list
  have f5 := AutoSeq1.sub_list_tuple
  have hz' : (items ++ items2).size ≤ sizeLine + 1 := by rw [Array.size_append]; exact h2
  wp_walk using (wpAny_updateSeq hl rfl (hz := h1) (_hz' := hz')), AutoSeq1.wpAny_loadPart' hl, AutoSeq1.wpAny_loadPart' hb
  exact ⟨_, rfl, h⟩
def rExtT (K : PySem.W.Frag) : V → List V → Hp → VK → Prop := fun x vs H Q => ∃ l b xs zs, x = .ref l ∧ vs = [.ref b] ∧ H l = some (.lst xs) ∧ SqT K H b zs ∧ xs.length + zs.length ≤ sizeLine ∧ Q .non (upd H l (.lst (xs ++ zs)))
theorem mt_extendT {X : Cx} {K : PySem.W.Frag} (hK : X.K = K) : MtM X "list.extend" (rExtT K) := by
  subst hK
  intro pins s σ H x vs v us Q I rx rv h
  obtain ⟨l, b, xs, zs, rfl, rfl, hH, hB, hz, q⟩ := h
  cases rx
  obtain ⟨u, rfl, ru⟩ := rv.one
  cases ru
  obtain ⟨z, its, n, r, hl, e⟩ := I.lstM hH
  obtain ⟨its2, r2, ⟨o, ho, hc, n2, hd⟩, hl2⟩ := I.tuple hB
  have q1 := r.length
  have q2 := r2.length
  have hsz : its.toArray.size + its2.toArray.size ≤ sizeLine := by rw [List.size_toArray, List.size_toArray]; omega
  have hlong : ¬ (!its.toArray.isEmpty && Builtin.List.listTooLong (its.toArray.size + its2.toArray.size)) = true := by
    rw [notLongL hsz, Bool.and_false]
    exact Bool.false_ne_true
  refine call_meets F.slot_list_extend ⟨_, e, rfl⟩ F.entry_list_extend (F.args_list_extend_2 _ _)
    (list_extend_tup l its.toArray n b o its2.toArray n2 hc hd hlong (by rw [List.size_toArray]; omega) (by omega)) ⟨e, ho, ?_⟩
  refine ⟨.non, _, I.lset (its' := its ++ its2) hH e (by simp) (r.append r2) ?_, rfl, q⟩
  rw [List.length_append]
  omega
def tTru (K : PySem.W.Frag) (te : TE) : TT := fun σ H Q => te σ H fun x H' => ∃ k, TruV K x H' k ∧ Q k H'
theorem truK {X : Cx} {K : PySem.W.Frag} {a : Expr} {ta : TE} (hK : X.K = K) (ha : PE X a ta) (he : ∀ whole, isTrue a X.env whole = (do let v ← whole; standAt a.pos; holding [v] (truthy v))) : PT X a (tTru K ta) := by
  subst hK
  exact pt_truth ha he
theorem et_truL {K : PySem.W.Frag} {te : TE} {σ : L2.St} {H : Hp} {l : Addr} {xs : List V} (h : Ev te σ H (.ref l)) (hl : H l = some (.lst xs)) : EvT (tTru K te) σ H (!xs.isEmpty) := fun H1 e Q q =>
  h H1 e _ fun H2 e2 => ⟨!xs.isEmpty, Or.inl ⟨xs, sq_of ((e.trans e2) _ _ hl), rfl⟩, q H2 e2⟩
/-! ### what waits, the last one first -/
/-- a member's own name, and what is in it -/
def hdM : PyData → Option (Str × List PyData)
  | .str s => some (s, [])
  | .tuple [.str n, .int b, .tuple ms] => if 1 ≤ b ∧ ms ≠ [] then some (n, ms) else none
  | _ => none
def goesB (d : PyData) (ns : List Str) : Bool := match hdM d with
  | none => false
  | some (n, _) => nameB n && decide (n ∉ ns)
theorem allM_other {d : PyData} (h1 : ∀ s, d ≠ .str s) (h2 : ∀ n b ms, d ≠ .tuple [.str n, .int b, .tuple ms]) : allM d = none := by
  unfold allM
  split
  · exact (h1 _ rfl).elim
  · exact (h2 _ _ _ rfl).elim
  · rfl
theorem hdM_other {d : PyData} (h1 : ∀ s, d ≠ .str s) (h2 : ∀ n b ms, d ≠ .tuple [.str n, .int b, .tuple ms]) : hdM d = none := by
  unfold hdM
  split
  · exact (h1 _ rfl).elim
  · exact (h2 _ _ _ rfl).elim
  · rfl
theorem allM_grp (n : Str) (b : Int) (ms : List PyData) : allM (.tuple [.str n, .int b, .tuple ms]) = if 1 ≤ b ∧ ms ≠ [] ∧ nameB n = true then (match allMs ms with | none => none | some r => some (n :: r)) else none := by
  rw [allM]
  all_goals (cases allMs ms <;> rfl)
theorem hdM_grp (n : Str) (b : Int) (ms : List PyData) : hdM (.tuple [.str n, .int b, .tuple ms]) = if 1 ≤ b ∧ ms ≠ [] then some (n, ms) else none := by
  rw [hdM]
def allH : Option (Str × List PyData) → Option (List Str)
  | none => none
  | some (n, ms) => if nameB n = true then (match allMs ms with | none => none | some r => some (n :: r)) else none
theorem allM_hd (d : PyData) : allM d = allH (hdM d) := by
  by_cases c1 : ∃ s, d = .str s
  · obtain ⟨s, rfl⟩ := c1
    rw [allM, hdM, allH, allMs]
  by_cases c2 : ∃ n b ms, d = .tuple [.str n, .int b, .tuple ms]
  · obtain ⟨n, b, ms, rfl⟩ := c2
    rw [allM_grp, hdM_grp]
    by_cases h1 : 1 ≤ b ∧ ms ≠ []
    · rw [if_pos h1, allH]
      by_cases h2 : nameB n = true
      · rw [if_pos ⟨h1.1, h1.2, h2⟩, if_pos h2]
      · rw [if_neg (fun h => h2 h.2.2), if_neg h2]
    · rw [if_neg (fun h => h1 ⟨h.1, h.2.1⟩), if_neg h1, allH]
  rw [allM_other (fun s z => c1 ⟨s, z⟩) (fun n b ms z => c2 ⟨n, b, ms, z⟩), hdM_other (fun s z => c1 ⟨s, z⟩) (fun n b ms z => c2 ⟨n, b, ms, z⟩), allH]
theorem allMs_app : ∀ (a b : List PyData), allMs (a ++ b) = match allMs a with
    | none => none
    | some x => match allMs b with
      | none => none
      | some y => some (x ++ y)
  | [], b => by
    simp only [List.nil_append, allMs]
    cases allMs b <;> rfl
  | d :: a, b => by
    simp only [List.cons_append, allMs]
    rw [allMs_app a b]
    cases allM d with
    | none => rfl
    | some x =>
      cases allMs a with
      | none => rfl
      | some y =>
        cases allMs b with
        | none => rfl
        | some z => simp
def pileB (ds : List PyData) (ns : List Str) : Bool := (within (allMs ds) ns).isSome
theorem pile_nil (ns : List Str) : pileB [] ns = true := by
  simp [pileB, allMs, within]
theorem within_some {o : Option (List Str)} {ns : List Str} : (within o ns).isSome = true ↔ ∃ l, o = some l ∧ l.Nodup ∧ ∀ n ∈ l, n ∉ ns := by
  cases o with
  | none => simp [within]
  | some l =>
    simp only [within]
    by_cases h : l.Nodup ∧ ∀ n ∈ l, n ∉ ns
    · rw [if_pos h]
      exact ⟨fun _ => ⟨l, rfl, h⟩, fun _ => rfl⟩
    · rw [if_neg h]
      exact ⟨fun z => (Bool.false_ne_true z).elim, fun ⟨l', e, h'⟩ => by cases e; exact (h h').elim⟩
theorem pile_stop {a : List PyData} {d : PyData} {ns : List Str} (h : goesB d ns = false) : pileB (a ++ [d]) ns = false := by
  rw [← Bool.not_eq_true]
  intro hp
  obtain ⟨l, e, nd, hn⟩ := within_some.mp hp
  rw [allMs_app] at e
  simp only [allMs] at e
  rw [allM_hd d] at e
  unfold goesB at h
  cases hd : hdM d with
  | none =>
    rw [hd, allH] at e
    cases hx : allMs a with
    | none => rw [hx] at e; cases e
    | some x => rw [hx] at e; cases e
  | some r =>
    obtain ⟨n, ms⟩ := r
    rw [hd] at e h
    rw [allH] at e
    simp only at h
    cases hx : allMs a with
    | none => rw [hx] at e; cases e
    | some x =>
      rw [hx] at e
      by_cases h1 : nameB n = true
      · rw [if_pos h1] at e
        cases hy : allMs ms with
        | none => rw [hy] at e; cases e
        | some y =>
          rw [hy] at e
          simp only [List.append_nil, Option.some.injEq] at e
          subst e
          rw [h1, Bool.true_and] at h
          exact hn n (by simp) (by simpa using h)
      · rw [if_neg h1] at e
        cases e
theorem pile_step {a ms : List PyData} {d : PyData} {n : Str} {ns : List Str} (hd : hdM d = some (n, ms)) (h1 : nameB n = true) (h2 : n ∉ ns) : pileB (a ++ [d]) ns = pileB (a ++ ms) (ns ++ [n]) := by
  have e1 : allMs [d] = match allMs ms with | none => none | some r => some (n :: r) := by
    simp only [allMs]
    rw [allM_hd d, hd, allH, if_pos h1]
    cases allMs ms with
    | none => rfl
    | some r => simp
  have hm : ∀ (x y : List Str), ((x ++ n :: y).Nodup ∧ ∀ m ∈ x ++ n :: y, m ∉ ns) ↔ ((x ++ y).Nodup ∧ ∀ m ∈ x ++ y, m ∉ ns ++ [n]) := by
    intro x y
    have hp : (x ++ n :: y).Perm (n :: (x ++ y)) := List.perm_middle
    rw [hp.nodup_iff, List.nodup_cons]
    constructor
    · rintro ⟨⟨a1, a2⟩, a3⟩
      refine ⟨a2, fun m hm => ?_⟩
      have := a3 m (hp.mem_iff.mpr (List.mem_cons_of_mem _ hm))
      intro z
      rcases List.mem_append.mp z with z | z
      · exact this z
      · rw [List.mem_singleton.mp z] at hm
        exact a1 hm
    · rintro ⟨a2, a3⟩
      refine ⟨⟨fun z => a3 n z (by simp), a2⟩, fun m hm => ?_⟩
      rcases List.mem_cons.mp (hp.mem_iff.mp hm) with z | z
      · rw [z]; exact h2
      · exact fun w => a3 m z (List.mem_append_left _ w)
  rw [Bool.eq_iff_iff]
  unfold pileB
  rw [within_some, within_some, allMs_app, allMs_app, e1]
  cases allMs a with
  | none => simp
  | some x =>
    cases allMs ms with
    | none => simp
    | some y =>
      simp only [Option.some.injEq]
      constructor
      · rintro ⟨l, rfl, h⟩
        exact ⟨_, rfl, (hm x y).mp h⟩
      · rintro ⟨l, rfl, h⟩
        exact ⟨_, rfl, (hm x y).mpr h⟩
theorem pile_plan {d : PyData} (h : ∀ s, d ≠ .str s) : planB d = pileB [d] [] := by
  unfold planB pileB
  have e : fitG d [] = fitM d [] := by
    cases d with
    | str s => exact (h s rfl).elim
    | _ => rfl
  rw [e, fit_all]
  simp only [allMs]
  cases allM d with
  | none => rfl
  | some l => simp
theorem nodess_app : ∀ (a b : List PyData), nodess (a ++ b) = nodess a + nodess b
  | [], b => by simp [nodess]
  | x :: a, b => by simp only [List.cons_append, nodess, nodess_app a b]; omega
theorem hdM_nodes {d : PyData} {n : Str} {ms : List PyData} (h : hdM d = some (n, ms)) : nodess ms + 1 ≤ nodes d := by
  unfold hdM at h
  split at h
  · cases h
    simp [nodess, nodes]
  · split at h
    · cases h
      simp only [nodes, nodess]
      omega
    · cases h
  · cases h
theorem hdM_shorts {d : PyData} {n : Str} {ms : List PyData} (h : hdM d = some (n, ms)) (s : shorts d) : shortss ms := by
  unfold hdM at h
  split at h
  · cases h
    trivial
  · split at h
    · cases h
      simp only [shorts, shortss] at s
      exact s.2.2.1
    · cases h
  · cases h
theorem shortss_app : ∀ {a b : List PyData}, shortss (a ++ b) ↔ shortss a ∧ shortss b
  | [], b => by simp [shortss]
  | x :: a, b => by simp only [List.cons_append, shortss, shortss_app (a := a), and_assoc]
theorem nodes_pos (d : PyData) : 1 ≤ nodes d := by cases d <;> simp [nodes]
theorem len_nodess : ∀ (ds : List PyData), ds.length ≤ nodess ds
  | [] => Nat.zero_le _
  | d :: ds => by
    have := nodes_pos d
    have := len_nodess ds
    simp only [List.length_cons, nodess]
    omega
theorem q_whenM {t : TT} {tu tz : TS} {D : Ends} {σ : L2.St} {H : Hp} {b : Bool} (M : L2.St → Hp → Prop) (h : EvT t σ H b) (k : ∀ σ' H', M σ' H' → tz D σ' H')
    (h1 : ∀ R : L2.St → Hp → Prop, (∀ σ' H', M σ' H' → R σ' H') → b = true → ∀ H1, Ex H H1 → tu { D with nx := R } σ H1) (h2 : b = false → ∀ H1, Ex H H1 → M σ H1) : tSeq (tIfS t tu tNext) tz D σ H :=
  q_when h (h1 (tz D) k) fun hb H1 e => k σ H1 (h2 hb H1 e)
theorem s_dropP {te : TE} {D : Ends} {σ : L2.St} {H : Hp} (h : te σ H fun v H1 => D.nx σ H1) : tDrop te D σ H := h
theorem dxa_snoc {K : PySem.W.Frag} {H : Hp} : ∀ {vs : List V} {ds : List PyData}, DxAll K H vs ds → ds ≠ [] → ∃ us x es d, vs = us ++ [x] ∧ ds = es ++ [d] ∧ DxAll K H us es ∧ Dx K H x d
  | _, _, .nil, h => (h rfl).elim
  | _, _, .cons (v := v) (vs := []) (d := d) (ds := ds) h1 h2, _ => by
    cases h2
    exact ⟨[], v, [], d, rfl, rfl, .nil, h1⟩
  | _, _, .cons (v := v) (vs := w :: vs) (d := d) (ds := ds) h1 h2, _ => by
    have hne : ds ≠ [] := by
      cases h2
      exact List.cons_ne_nil _ _
    obtain ⟨us, x, es, e, a1, a2, a3, a4⟩ := dxa_snoc h2 hne
    exact ⟨v :: us, x, d :: es, e, by rw [a1]; rfl, by rw [a2]; rfl, .cons h1 a3, a4⟩
theorem dxa_app {K : PySem.W.Frag} {H : Hp} {ws : List V} {es : List PyData} (h2 : DxAll K H ws es) : ∀ {vs : List V} {ds : List PyData}, DxAll K H vs ds → DxAll K H (vs ++ ws) (ds ++ es)
  | _, _, .nil => h2
  | _, _, .cons a b => .cons a (dxa_app h2 b)
end NL

/-! a comprehension with two for: what is in tuples of a tuple, one behind the other -/
namespace NL
open PySem L2 Evl
theorem piTK {X : Cx} {K : PySem.W.Frag} {tg e : Expr} {tl : TE} (hK : X.K = K) (he : PE X e tl) : PI X tg e (iTup K tl) := by
  subst hK
  exact pi_tup he
theorem flat_take {yss : List (List V)} {i : Nat} {ys : List V} (h : yss[i]? = some ys) : (yss.take (i + 1)).flatten = (yss.take i).flatten ++ ys := by
  obtain ⟨hi, rfl⟩ := List.getElem?_eq_some_iff.mp h
  rw [List.take_succ_eq_append_getElem hi, List.flatten_append]
  simp
theorem flat_le {yss : List (List V)} {i j : Nat} {ys : List V} (h : yss[i]? = some ys) (hj : j ≤ ys.length) : ((yss.take i).flatten ++ ys.take j).length ≤ yss.flatten.length := by
  have e : yss.flatten = (yss.take (i + 1)).flatten ++ (yss.drop (i + 1)).flatten := by
    rw [← List.flatten_append, List.take_append_drop]
  rw [e, flat_take h]
  simp only [List.length_append, List.length_take]
  omega
theorem el_lc2T {K : PySem.W.Frag} {σ : L2.St} {H : Hp} {a : Addr} {xs : List V} {tl : TE} {j j1 : Nat} {vs vs1 : List Nat} (yss : List (List V)) (src : Ev tl σ H (.ref a)) (held : SqT K H a xs) (inner : ∀ (i : Nat) (x : V), xs[i]? = some x → ∃ b ys, x = V.ref b ∧ yss[i]? = some ys ∧ SqT K H b ys) (hlen : yss.length = xs.length) (few : yss.flatten.length ≤ 40000)
    (c1 : ∀ x, wipe ((wipe σ vs).set j (some x)) vs = wipe σ vs) (h1 : ∀ x, ((wipe σ vs).set j (some x))[j]? = some (some x))
    (c2 : ∀ x y, wipe ((wipe ((wipe σ vs).set j (some x)) vs1).set j1 (some y)) vs1 = wipe ((wipe σ vs).set j (some x)) vs1) (h2 : ∀ x y, ((wipe ((wipe σ vs).set j (some x)) vs1).set j1 (some y))[j1]? = some (some y)) :
    EvL (tLc2 (iTup K tl) (gName j) tYes (iTup K (tVar j)) (gName j1) tYes (tVar j1) vs vs1) σ H yss.flatten := by
  intro H0 e0 Q next
  refine src H0 e0 _ fun H1 e1 => ?_
  have e01 : Ex H H1 := e0.trans e1
  refine ⟨a, rfl, ⟨xs, ex_t e01 held⟩, fun D hD => ?_⟩
  refine ⟨fun i m H' => m = xs.length - i ∧ i ≤ xs.length ∧ Ex H1 H' ∧ H' D = some (.lst (yss.take i).flatten), ⟨xs.length, by simp, Nat.zero_le _, Ex.new hD, by rw [upd_same]; rfl⟩, ?_⟩
  rintro i m H2 ⟨rfl, hi, e2, hD2⟩
  have q2 : SqT K H2 a xs := ex_t (e01.trans e2) held
  by_cases hlt : i < xs.length
  · refine .inr ⟨⟨xs, xs[i], q2, by simp [hlt]⟩, fun H' => Ex H1 H' ∧ H' D = some (.lst (yss.take (i + 1)).flatten), fun H' p' => ⟨xs.length - (i + 1), by omega, rfl, hlt, p'.1, p'.2⟩, fun x H3 y => ?_⟩
    obtain ⟨rfl, y⟩ := y
    have hx := y xs q2
    obtain ⟨b, ys, rfl, hys, hb⟩ := inner i x hx
    refine ⟨c1 _, ?_⟩
    refine ⟨.ref b, h1 _, b, rfl, ⟨_, ex_t (e01.trans e2) hb⟩, ?_⟩
    refine ⟨fun j' k H' => k = ys.length - j' ∧ j' ≤ ys.length ∧ Ex H1 H' ∧ H' D = some (.lst ((yss.take i).flatten ++ ys.take j')), ⟨_, rfl, Nat.zero_le _, e2, by rw [hD2]; simp⟩, ?_⟩
    rintro j' k H4 ⟨rfl, hj', e4, hD4⟩
    have q4 : SqT K H4 b ys := ex_t (e01.trans e4) hb
    by_cases hlt2 : j' < ys.length
    · refine .inr ⟨⟨_, ys[j'], q4, by simp [hlt2]⟩, fun H' => Ex H1 H' ∧ H' D = some (.lst ((yss.take i).flatten ++ ys.take (j' + 1))), fun H' p' => ⟨ys.length - (j' + 1), by omega, rfl, hlt2, p'.1, p'.2⟩, fun z H5 y2 => ?_⟩
      obtain ⟨rfl, y2⟩ := y2
      have hz := y2 _ q4
      refine ⟨c2 _ _, ?_⟩
      have hle := flat_le hys (Nat.le_of_lt hlt2)
      refine ⟨z, h2 _ _, _, hD4, sz_lt (by omega), Ex.mut e4 hD, ?_⟩
      rw [upd_same, List.append_assoc]
      congr 3
      obtain ⟨hh, rfl⟩ := List.getElem?_eq_some_iff.mp hz
      rw [List.take_succ_eq_append_getElem hh]
    · have e : j' = ys.length := by omega
      subst e
      refine .inl ⟨⟨_, q4, Nat.le_refl _⟩, e4, ?_⟩
      rw [hD4, List.take_length, flat_take hys]
  · have e : i = xs.length := by omega
    subst e
    rw [← hlen, List.take_length] at hD2
    exact .inl ⟨⟨xs, q2, Nat.le_refl _⟩, next D H2 (fresh_back e1 hD) (e1.trans e2) hD2⟩
/-- over a new list -/
theorem el_lcN {K : PySem.W.Frag} {σ : L2.St} {H : Hp} {xs : List V} {tl te : TE} {tt : TT} {j : Nat} {vs : List Nat} (f : Nat → Bool) (g : Nat → V) (src : EvL tl σ H xs) (few : xs.length ≤ 40000) (clean : ∀ x, wipe ((wipe σ vs).set j (some x)) vs = wipe σ vs)
    (test : ∀ (i : Nat) (x : V) H1, Ex H H1 → xs[i]? = some x → EvT tt ((wipe σ vs).set j (some x)) H1 (f i)) (give : ∀ (i : Nat) (x : V) H1, Ex H H1 → xs[i]? = some x → f i = true → Ev te ((wipe σ vs).set j (some x)) H1 (g i)) :
    EvL (tLc (iList K tl) (gName j) tt te vs) σ H (given xs.length f g) := by
  intro H0 e0 Q next
  refine src H0 e0 _ fun a H1 ha e1 held => ?_
  have e01 : Ex H H1 := e0.trans e1
  refine ⟨a, rfl, ⟨xs, sq_of held⟩, fun made fresh => ?_⟩
  refine lc_list (xs := xs) (Cw H1 f g made) ⟨fresh, Ex.new fresh, upd_same⟩ ?stays ?turn ?done
  case stays =>
    intro i H' _ inv
    exact sq_of (inv.2.1 _ _ held)
  case turn =>
    intro i x H' at_i inv
    have small : i < 50000 := by
      have := (List.getElem?_eq_some_iff.mp at_i).1
      omega
    exact ⟨clean x, cw_turn inv small (test i x H1 e01 at_i) (give i x H1 e01 at_i)⟩
  case done =>
    intro H2 inv
    exact next made H2 (fresh_back e1 inv.1) (e1.trans inv.2.1) inv.2.2
theorem inSK {X : Cx} {K : PySem.W.Frag} (h : X.K = K) : OpR X (compareOp .In) (rIn K false) := by subst h; exact op_in_seq
theorem notInSK {X : Cx} {K : PySem.W.Frag} (h : X.K = K) : OpR X (compareOp .NotIn) (rIn K true) := by subst h; exact op_notIn_seq
theorem plLK {X : Cx} {K : PySem.W.Frag} {tg e : Expr} {tl : TE} (hK : X.K = K) (he : PE X e tl) : PI X tg e (iList K tl) := by
  subst hK
  exact pi_list he
end NL

/-! sets of texts, made of a list or a tuple; how many are in them -/
namespace NL
open PySem PySem.Spec PyProof.Rows L2 Evl
/-- just these texts lie in the set at S, and as many as they are where all are unlike -/
def TextSet (P : Program) (w : World) (h : Heap) (S : Addr) (xs : List Str) : Prop := ∃ n, h.SetOf (strKind P w) S (fun k => decide (k ∈ xs)) n ∧ n ≤ xs.length ∧ (n = xs.length ↔ xs.Nodup)
theorem nodup_app {xs : List Str} {x : Str} : (xs ++ [x]).Nodup ↔ xs.Nodup ∧ x ∉ xs := by
  rw [List.nodup_append]
  constructor
  · rintro ⟨a, b, c⟩
    exact ⟨a, fun h => c x h x (List.mem_singleton.mpr rfl) rfl⟩
  · rintro ⟨a, b⟩
    exact ⟨a, by simp, fun y hy z hz e => by rw [List.mem_singleton.mp hz] at e; subst e; exact b hy⟩
theorem TextSet.at {P : Program} {w : World} {h h' : Heap} {S : Addr} {xs : List Str} (t : TextSet P w h S xs) (k : ∀ o, h.get? S = some o → h'.get? S = some o) : TextSet P w h' S xs := by
  obtain ⟨n, ⟨o, es, ep, tb, ho, rest⟩, r⟩ := t
  exact ⟨n, ⟨o, es, ep, tb, k _ ho, rest⟩, r⟩
section
variable {P : Program} {w : World} {A : Around} {R : Result → Shared → Prop} {J : Addr} {fp wr : List Addr} {G : Array GenState → Array GenState → Prop} {m : Nat} {V1 : Nat → Value → Prop} {St : Nat → Shared → Prop}
/-- what walks over texts lays them all into the set -/
theorem walk_into (W : WalksS P w A.in1 J fp wr G m V1 St) {S : Addr} (off : S ∉ fp) (xs : List Str) (len : xs.length = m) (few : m + 1 < scanBound) (text : ∀ i v, V1 i v → ∃ t, v = .str (xs.getD i Str.empty) t) :
    ∀ (left i : Nat) (s : Shared), i + left = m → St i s → TextSet P w s.heap S (xs.take i) → (∀ s', Moved (S :: wr) G s s' → TextSet P w s'.heap S xs → R (.ok (.ret .none)) s') →
      codeAny (model P w) A (.builtin "set.update.loop" ⟨[.ref S, .ref J], []⟩) R s := by
  have offw : S ∉ wr := fun z => off (W.sub _ z)
  have more : ∀ b ∈ wr, b ∈ S :: wr := fun b z => List.mem_cons_of_mem _ z
  intro left
  induction left with
  | zero =>
    intro i s hi here has fin
    have e : i = m := by omega
    subst e
    rw [List.take_of_length_le (by omega)] at has
    refine codeAny_builtin PyProof.Rows.F.entry_set_update_loop ?_
    rw [Around.under_plainId PyProof.Rows.F.plain_set_update_loop]
    change wpAny _ A.in1 (pyNext (.ref J) >>= _) _ _ _
    refine wpAny_bind (W.done s _ _ here fun s1 mv => ?_)
    change wpAny _ A.in1 (ret Value.none) _ _ _
    exact wpAny_pure (fin s1 (mv.mono more) (has.at fun o ho => mv.heap S o offw ho))
  | succ left again =>
    intro i s hi here has fin
    refine codeAny_builtin PyProof.Rows.F.entry_set_update_loop ?_
    rw [Around.under_plainId PyProof.Rows.F.plain_set_update_loop]
    change wpAny _ A.in1 (pyNext (.ref J) >>= _) _ _ _
    refine wpAny_bind (W.item i s _ _ (by omega) here fun v s1 hv next mv => ?_)
    obtain ⟨t, rfl⟩ := text i v hv
    have has1 := has.at (h' := s1.heap) fun o ho => mv.heap S o offw ho
    generalize hx : xs.getD i Str.empty = x
    have hlt : i < xs.length := by omega
    have tk1 : xs.take (i + 1) = xs.take i ++ [x] := by
      rw [← hx, List.getD_eq_getElem?_getD, List.getElem?_eq_getElem hlt, List.take_succ_eq_append_getElem hlt]
      rfl
    change wpAny _ A.in1 (holding [Value.str x t] (setAdd S (.str x t)) >>= _) _ _ _
    refine wpAny_bind (wpAny_holding ?_)
    unfold setAdd
    refine wpAny_holding (wpAny_bind ((strKind P w).pyHash (k := x) (strKind_is _ _ _ _) ?_))
    obtain ⟨n, hs, hn, hnd⟩ := has1
    have hl : (xs.take i).length = i := by rw [List.length_take]; omega
    refine wpAny_setAddHashed_of (knd := strKind P w) (s := { s1 with toks := s1.toks + 1 }) (strKind_is _ _ _ _) rfl hs (by omega) fun h2 but hs2 => ?_
    have has2 : TextSet P w h2 S (xs.take (i + 1)) := by
      rw [tk1]
      refine ⟨_, SetOf_congr hs2 (S' := fun k => decide (k ∈ xs.take i ++ [x])) (fun k => ?_) rfl, ?_, ?_⟩
      · simp
      · rw [List.length_append, List.length_singleton]
        split <;> omega
      · rw [nodup_app, List.length_append, List.length_singleton, ← hnd]
        by_cases hm : x ∈ xs.take i
        · rw [if_pos (decide_eq_true hm)]
          constructor
          · intro z
            omega
          · intro z
            exact absurd hm z.2
        · rw [if_neg (by simp [hm])]
          constructor
          · intro z
            exact ⟨by omega, hm⟩
          · intro z
            omega
    refine wpAny_pure ⟨plainId_quiet PyProof.Rows.F.plain_set_update_loop _, again (i + 1) _ (by omega) (W.frame _ s1 _ _ next (Nat.le_succ _) fun b z o e => ?_) has2 fun s2 mv2 has3 => ?_⟩
    · rw [but.2 b (fun y => off (y ▸ z))]
      exact e
    · refine fin s2 (Moved.trans W.gtrans ((mv.mono more).then_heap (Nat.le_succ _) fun b o z e => ?_) mv2) has3
      rw [but.2 b (fun y => z (y ▸ List.mem_cons_self))]
      exact e
end
/-- a set as it is made, with nothing in it -/
abbrev bareSet (led : Bool) : Obj := { cls := .type "set", dict := none, data := .set #[] 0 (.fresh 0 0 led) }
section
variable {P : Program} {w : World} {A : Around} {E : Value → Shared → Prop} {s : Shared} {l : Addr} {its : Array Value} {xs : List Str} {Q : Value → Shared → Prop}
theorem bare_has {h : Heap} {S : Addr} {led : Bool} (e : h.get? S = some (bareSet led)) : TextSet P w h S [] := by
  refine ⟨0, SetOf_congr (S' := fun k => decide (k ∈ ([] : List Str))) ((setObjOf_fresh (knd := strKind P w) led).setOf e (by decide)) (fun k => by simp) rfl, Nat.le_refl _, by simp⟩
/-- set(texts) of a list -/
theorem set_list (calm : A.handled = none) (hl : s.heap.IsList l its) (hx : StrsAre its.toList xs) (few : its.size + 1 < scanBound)
    (told : ∀ (h2 : Heap) (tk : Nat), TextSet P w h2 s.heap.objs.size xs → (∀ b o, b < s.heap.objs.size → s.heap.get? b = some o → h2.get? b = some o) → Q (.ref s.heap.objs.size) { s with heap := h2, toks := tk }) :
    wpAny (model P w) A (call (.type "set") [.ref l]) Q E s := by
  have made := PySem.F.called_set
  obtain ⟨top, rest, mro⟩ := made.mro
  have y1 := made.made
  have y2 := made.sub
  have y3 := made.notType
  have y4 := made.canCreate
  have y5 := PySem.F.typeCall_set_1 (.ref l)
  refine wpAny_call (codeAny_of_tree ?_)
  change wpAny _ _ (callAny (.type "set") _) _ _ _
  refine wpAny_pure ⟨Code.quiet_builtin _ (by decide +kernel), codeAny_builtin PySem.F.entry_type_call ?_⟩
  rw [Around.under_plain (weight_type_call_type "set" [.ref l] []) rfl]
  repeat (any_goals (first | assumption | wp_step))
  refine codeAny_mono (code_set_new_1 (.ref l) (E := E) (Q₁ := fun v s1 => ∃ led : Bool, v = .ref s.heap.objs.size ∧ s1 = { s with heap := s.heap.push (bareSet led) }) fun led => ⟨led, rfl, rfl⟩) fun r s1 got => ?_
  match r, got with
  | .error e, got => exact got
  | .ok .next, got => exact got.elim
  | .ok .brk, got => exact got.elim
  | .ok .cont, got => exact got.elim
  | .ok (.ret v), got =>
    obtain ⟨led, rfl, rfl⟩ := got
    have at1 : (s.heap.push (bareSet led)).get? s.heap.objs.size = some (bareSet led) := Heap.get?_push_size _ rfl
    have ty1 : Shared.TypeIs { s with heap := s.heap.push (bareSet led) } (.ref s.heap.objs.size) "set" := ⟨_, at1, rfl⟩
    have y6 := made.init.lookup
    have y7 := made.init.bind (.ref s.heap.objs.size)
    repeat (any_goals (first | assumption | wp_step))
    refine codeAny_mono (codeAny_call_builtin (R := wants (fun u s2 => u = .none ∧ ∃ h2 tk, s2 = { s with heap := h2, toks := tk } ∧ TextSet P w h2 s.heap.objs.size xs ∧ ∀ b o, b < s.heap.objs.size → s.heap.get? b = some o → h2.get? b = some o) E) made.init.plain PySem.F.entry_set_init (check_set_init_1 ty1 ?_)) fun r2 s2 got2 => ?_
    · obtain ⟨ob, at2, cl, nn, dt⟩ := hl
      obtain ⟨_, od, _, os⟩ := ob
      simp only at cl dt
      subst cl dt
      have at3 := Heap.get?_push_of_some (bareSet led) at2
      have y8 := PySem.F.sub_list_set
      have y9 := PySem.F.sub_list_frozenset
      have y0 : (Value.type "list" == Value.type "dict") = false := by decide
      have lst1 : (s.heap.push (bareSet led)).IsList l its := ⟨_, at3, rfl, nn, rfl⟩
      unfold Builtin.«set.__init__» noKeywords Builtin.Frozenset.updateFrom
      generalize hit : pyIter = it
      wp_walk
      subst hit
      refine wpAny_pyIter_list lst1 (wpAny_bind (wpAny_runValue ?_))
      have low : l < s.heap.objs.size := Heap.lt_size at2
      have apart : l ≠ (s.heap.push (bareSet led)).objs.size := by
        rw [Heap.size_push]
        exact Nat.ne_of_lt (Nat.lt_succ_of_lt low)
      have off : s.heap.objs.size ∉ [(s.heap.push (bareSet led)).objs.size, l] := by
        rw [Heap.size_push]
        simp only [List.mem_cons, List.not_mem_nil, or_false, not_or]
        exact ⟨Nat.ne_of_lt (Nat.lt_succ_self _), Nat.ne_of_gt low⟩
      have len : xs.length = its.size := by
        rw [← StrsAre.len_eq hx, Array.length_toList]
      refine walk_into ((Walks.list (by simp [calm]) _ l apart its).toS) off xs len few (fun i v hv => SS.strs_at hx i v (by rw [Array.getElem?_toList]; exact hv)) its.size 0 _ (by omega) ⟨⟨_, Heap.get?_push_size _ rfl, rfl, rfl⟩, lst1.push _⟩ ?first ?last
      case first =>
        exact bare_has (led := led) (Heap.get?_push_of_some _ at1)
      case last =>
        intro s3 mv has
        obtain ⟨h3, g3, d3, t3, o3⟩ := s3
        have e1 : g3 = s.gens := mv.gens
        have e2 : d3 = s.drawn := mv.drawn
        have e3 : o3 = s.os := mv.os
        subst e1 e2 e3
        change wpAny _ _ _ _ _ _
        refine wpAny_pure ?_
        change wpAny _ _ (ret Value.none) _ _ _
        refine wpAny_pure ⟨rfl, h3, t3, rfl, has, fun b o lt e => mv.heap b o ?_ (Heap.get?_push_of_some _ (Heap.get?_push_of_some _ e))⟩
        rw [Heap.size_push]
        simp only [List.mem_cons, List.not_mem_nil, or_false, not_or]
        exact ⟨Nat.ne_of_lt lt, Nat.ne_of_lt (Nat.lt_succ_of_lt lt)⟩
    · match r2, got2 with
      | .error e, got2 => exact got2
      | .ok .next, got2 => exact got2.elim
      | .ok .brk, got2 => exact got2.elim
      | .ok .cont, got2 => exact got2.elim
      | .ok (.ret u), got2 =>
        obtain ⟨rfl, h2, tk, rfl, has, old⟩ := got2
        repeat (any_goals (first | assumption | wp_step))
        exact told h2 tk has old
end
/-- the set at a, of these texts -/
def SetX (P : Program) (w : World) (a : Addr) (xs : List Str) : HO := .ext fun h => TextSet P w h a xs
section
variable {X : Cx}
def rSetX (P : Program) (w : World) (K : PySem.W.Frag) : List V → Hp → VK → Prop := fun vs H Q => ∃ (l : Addr) (xs : List Str), vs = [.ref l] ∧ SqL K H l (xs.map V.str) ∧ xs.length ≤ 4000 ∧ ∀ p, H p = none → Q (.ref p) (upd H p (SetX P w p xs))
theorem setXK {K : PySem.W.Frag} {P : Program} {w : World} (h : X.K = K) (hP : X.prog = P) (hw : X.w = w) (hc : X.calm = true) : CallR X (.type "set") (rSetX P w K) := by
  subst h hP hw
  intro pins s σ H vs us Q I rel told
  obtain ⟨l, xs, rfl, hl, few, q⟩ := told
  obtain ⟨u, rfl, ru⟩ := vals1 rel
  cases ru
  obtain ⟨its, rv, pl, hz⟩ := I.list hl
  have len := rv.length
  rw [List.length_map] at len
  refine set_list (I.ok.hd hc) pl.isList (by simpa using strsAre_of rv) (by rw [List.size_toArray, ← len]; unfold scanBound; omega) fun h2 tk has old => ?_
  have ob : ∃ o, h2.get? s.heap.objs.size = some o := by
    obtain ⟨n, ⟨o, _, _, _, ho, _⟩, _⟩ := has
    exact ⟨o, ho⟩
  refine ⟨.ref s.heap.objs.size, _, I.laid (o := SetX X.prog X.w s.heap.objs.size xs) (fun b o e => old b o (Heap.lt_size e) e) (Nat.le_refl _) ⟨has, ob, fun h3 h4 t k => TextSet.at t k⟩, rfl, q _ (I.hok.fresh (Nat.le_refl _))⟩
def rLenX (P : Program) (w : World) : List V → Hp → VK → Prop := fun vs H Q => ∃ (a : Addr) (xs : List Str), vs = [.ref a] ∧ H a = some (SetX P w a xs) ∧ xs.length ≤ 4000 ∧ ∀ n : Nat, (n = xs.length ↔ xs.Nodup) → Q (.int n) H
theorem lenXK {P : Program} {w : World} (hP : X.prog = P) (hw : X.w = w) : CallR X (.builtin "len") (rLenX P w) := by
  subst hP hw
  intro pins s σ H vs us Q I rel told
  obtain ⟨a, xs, rfl, ha, few, q⟩ := told
  obtain ⟨u, rfl, ru⟩ := vals1 rel
  cases ru
  obtain ⟨n, ⟨o, es, ep, t, ho, hex, hd, _, _, _, hf, hn⟩, le, iff⟩ := (I.hok a _ ha).1
  refine call_len_set ho hex hd hf (by rw [hn]; omega) ⟨.int n, H, I.tok _, ⟨_, by rw [hn]⟩, q n iff⟩
end
end NL

/-! a set of whole numbers, of a list; how many are in it -/
namespace NL
open PySem PySem.Spec PyProof.Rows L2 Evl
/-- of so many numbers in it -/
def CntI (n : Nat) (xs : List Int) : Prop := (n = 0 ↔ xs = []) ∧ (n ≤ 1 ↔ ∀ a ∈ xs, ∀ b ∈ xs, a = b) ∧ n ≤ xs.length
theorem CntI.more {n : Nat} {xs : List Int} {x : Int} (c : CntI n xs) : CntI (if decide (x ∈ xs) = true then n else n + 1) (xs ++ [x]) := by
  obtain ⟨c1, c2, c3⟩ := c
  by_cases h : x ∈ xs
  · rw [if_pos (decide_eq_true h)]
    refine ⟨⟨fun z => ?_, fun z => by simp at z⟩, ⟨fun z a ha b hb => ?_, fun z => c2.mpr fun a ha b hb => z a (List.mem_append_left _ ha) b (List.mem_append_left _ hb)⟩, by rw [List.length_append]; simp; omega⟩
    · rw [c1.mp z] at h
      cases h
    · have ha' : a ∈ xs := by
        rcases List.mem_append.mp ha with y | y
        · exact y
        · rw [List.mem_singleton.mp y]; exact h
      have hb' : b ∈ xs := by
        rcases List.mem_append.mp hb with y | y
        · exact y
        · rw [List.mem_singleton.mp y]; exact h
      exact c2.mp z a ha' b hb'
  · rw [if_neg (by simp [h])]
    refine ⟨⟨fun z => by omega, fun z => by simp at z⟩, ⟨fun z a ha b hb => ?_, fun z => ?_⟩, by rw [List.length_append]; simp; omega⟩
    · have := c1.mp (by omega)
      subst this
      simp at ha hb
      rw [ha, hb]
    · cases xs with
      | nil =>
        have := c1.mpr rfl
        omega
      | cons y ys =>
        have := z y (by simp) x (by simp)
        exact (h (by rw [← this]; simp)).elim
def IntSet (P : Program) (w : World) (h : Heap) (S : Addr) (xs : List Int) : Prop := ∃ n, h.SetOf (intKind P w) S (fun k => decide (k ∈ xs)) n ∧ CntI n xs
theorem ints_lenI : ∀ {us : List Value} {xs : List Int}, IntsAre us xs → us.length = xs.length
  | _, _, .nil => rfl
  | _, _, .cons _ _ h => by rw [List.length_cons, List.length_cons, ints_lenI h]
theorem ints_atI : ∀ {us : List Value} {xs : List Int}, IntsAre us xs → ∀ (i : Nat) (v : Value), us[i]? = some v → ∃ t, v = .int (xs.getD i 0) t
  | _, _, h, i, v, e => by
    induction h generalizing i with
    | nil => cases e
    | cons a b =>
      cases i with
      | zero =>
        cases e
        exact ⟨_, rfl⟩
      | succ i =>
        rename_i ih
        obtain ⟨t, r⟩ := ih i (by simpa using e)
        exact ⟨t, by simpa using r⟩
theorem IntSet.at {P : Program} {w : World} {h h' : Heap} {S : Addr} {xs : List Int} (t : IntSet P w h S xs) (k : ∀ o, h.get? S = some o → h'.get? S = some o) : IntSet P w h' S xs := by
  obtain ⟨n, ⟨o, es, ep, tb, ho, rest⟩, r⟩ := t
  exact ⟨n, ⟨o, es, ep, tb, k _ ho, rest⟩, r⟩
section
variable {P : Program} {w : World} {A : Around} {R : Result → Shared → Prop} {J : Addr} {fp wr : List Addr} {G : Array GenState → Array GenState → Prop} {m : Nat} {V1 : Nat → Value → Prop} {St : Nat → Shared → Prop}
/-- what walks over texts lays them all into the set -/
theorem walk_intoI (W : WalksS P w A.in1 J fp wr G m V1 St) {S : Addr} (off : S ∉ fp) (xs : List Int) (len : xs.length = m) (few : m + 1 < scanBound) (text : ∀ i v, V1 i v → ∃ t, v = .int (xs.getD i 0) t) :
    ∀ (left i : Nat) (s : Shared), i + left = m → St i s → IntSet P w s.heap S (xs.take i) → (∀ s', Moved (S :: wr) G s s' → IntSet P w s'.heap S xs → R (.ok (.ret .none)) s') →
      codeAny (model P w) A (.builtin "set.update.loop" ⟨[.ref S, .ref J], []⟩) R s := by
  have offw : S ∉ wr := fun z => off (W.sub _ z)
  have more : ∀ b ∈ wr, b ∈ S :: wr := fun b z => List.mem_cons_of_mem _ z
  intro left
  induction left with
  | zero =>
    intro i s hi here has fin
    have e : i = m := by omega
    subst e
    rw [List.take_of_length_le (by omega)] at has
    refine codeAny_builtin PyProof.Rows.F.entry_set_update_loop ?_
    rw [Around.under_plainId PyProof.Rows.F.plain_set_update_loop]
    change wpAny _ A.in1 (pyNext (.ref J) >>= _) _ _ _
    refine wpAny_bind (W.done s _ _ here fun s1 mv => ?_)
    change wpAny _ A.in1 (ret Value.none) _ _ _
    exact wpAny_pure (fin s1 (mv.mono more) (has.at fun o ho => mv.heap S o offw ho))
  | succ left again =>
    intro i s hi here has fin
    refine codeAny_builtin PyProof.Rows.F.entry_set_update_loop ?_
    rw [Around.under_plainId PyProof.Rows.F.plain_set_update_loop]
    change wpAny _ A.in1 (pyNext (.ref J) >>= _) _ _ _
    refine wpAny_bind (W.item i s _ _ (by omega) here fun v s1 hv next mv => ?_)
    obtain ⟨t, rfl⟩ := text i v hv
    have has1 := has.at (h' := s1.heap) fun o ho => mv.heap S o offw ho
    generalize hx : xs.getD i 0 = x
    have hlt : i < xs.length := by omega
    have tk1 : xs.take (i + 1) = xs.take i ++ [x] := by
      rw [← hx, List.getD_eq_getElem?_getD, List.getElem?_eq_getElem hlt, List.take_succ_eq_append_getElem hlt]
      rfl
    change wpAny _ A.in1 (holding [Value.int x t] (setAdd S (.int x t)) >>= _) _ _ _
    refine wpAny_bind (wpAny_holding ?_)
    unfold setAdd
    refine wpAny_holding (wpAny_bind ((intKind P w).pyHash (k := x) (intKind_is _ _ _ _) ?_))
    obtain ⟨n, hs, cn⟩ := has1
    have hn := cn.2.2
    have hl : (xs.take i).length = i := by rw [List.length_take]; omega
    refine wpAny_setAddHashed_of (knd := intKind P w) (s := { s1 with toks := s1.toks + 1 }) (intKind_is _ _ _ _) rfl hs (by omega) fun h2 but hs2 => ?_
    have has2 : IntSet P w h2 S (xs.take (i + 1)) := by
      rw [tk1]
      refine ⟨_, SetOf_congr hs2 (S' := fun k => decide (k ∈ xs.take i ++ [x])) (fun k => ?_) rfl, cn.more⟩
      simp
    refine wpAny_pure ⟨plainId_quiet PyProof.Rows.F.plain_set_update_loop _, again (i + 1) _ (by omega) (W.frame _ s1 _ _ next (Nat.le_succ _) fun b z o e => ?_) has2 fun s2 mv2 has3 => ?_⟩
    · rw [but.2 b (fun y => off (y ▸ z))]
      exact e
    · refine fin s2 (Moved.trans W.gtrans ((mv.mono more).then_heap (Nat.le_succ _) fun b o z e => ?_) mv2) has3
      rw [but.2 b (fun y => z (y ▸ List.mem_cons_self))]
      exact e
end
/-- a set as it is made, with nothing in it -/
abbrev bareSetI (led : Bool) : Obj := { cls := .type "set", dict := none, data := .set #[] 0 (.fresh 0 0 led) }
section
variable {P : Program} {w : World} {A : Around} {E : Value → Shared → Prop} {s : Shared} {l : Addr} {its : Array Value} {xs : List Int} {Q : Value → Shared → Prop}
theorem bare_hasI {h : Heap} {S : Addr} {led : Bool} (e : h.get? S = some (bareSetI led)) : IntSet P w h S [] := by
  refine ⟨0, SetOf_congr (S' := fun k => decide (k ∈ ([] : List Int))) ((setObjOf_fresh (knd := intKind P w) led).setOf e (by decide)) (fun k => by simp) rfl, by simp [CntI]⟩
/-- set(texts) of a list -/
theorem set_listI (calm : A.handled = none) (hl : s.heap.IsList l its) (hx : IntsAre its.toList xs) (few : its.size + 1 < scanBound)
    (told : ∀ (h2 : Heap) (tk : Nat), IntSet P w h2 s.heap.objs.size xs → (∀ b o, b < s.heap.objs.size → s.heap.get? b = some o → h2.get? b = some o) → Q (.ref s.heap.objs.size) { s with heap := h2, toks := tk }) :
    wpAny (model P w) A (call (.type "set") [.ref l]) Q E s := by
  have made := PySem.F.called_set
  obtain ⟨top, rest, mro⟩ := made.mro
  have y1 := made.made
  have y2 := made.sub
  have y3 := made.notType
  have y4 := made.canCreate
  have y5 := PySem.F.typeCall_set_1 (.ref l)
  refine wpAny_call (codeAny_of_tree ?_)
  change wpAny _ _ (callAny (.type "set") _) _ _ _
  refine wpAny_pure ⟨Code.quiet_builtin _ (by decide +kernel), codeAny_builtin PySem.F.entry_type_call ?_⟩
  rw [Around.under_plain (weight_type_call_type "set" [.ref l] []) rfl]
  repeat (any_goals (first | assumption | wp_step))
  refine codeAny_mono (code_set_new_1 (.ref l) (E := E) (Q₁ := fun v s1 => ∃ led : Bool, v = .ref s.heap.objs.size ∧ s1 = { s with heap := s.heap.push (bareSetI led) }) fun led => ⟨led, rfl, rfl⟩) fun r s1 got => ?_
  match r, got with
  | .error e, got => exact got
  | .ok .next, got => exact got.elim
  | .ok .brk, got => exact got.elim
  | .ok .cont, got => exact got.elim
  | .ok (.ret v), got =>
    obtain ⟨led, rfl, rfl⟩ := got
    have at1 : (s.heap.push (bareSetI led)).get? s.heap.objs.size = some (bareSetI led) := Heap.get?_push_size _ rfl
    have ty1 : Shared.TypeIs { s with heap := s.heap.push (bareSetI led) } (.ref s.heap.objs.size) "set" := ⟨_, at1, rfl⟩
    have y6 := made.init.lookup
    have y7 := made.init.bind (.ref s.heap.objs.size)
    repeat (any_goals (first | assumption | wp_step))
    refine codeAny_mono (codeAny_call_builtin (R := wants (fun u s2 => u = .none ∧ ∃ h2 tk, s2 = { s with heap := h2, toks := tk } ∧ IntSet P w h2 s.heap.objs.size xs ∧ ∀ b o, b < s.heap.objs.size → s.heap.get? b = some o → h2.get? b = some o) E) made.init.plain PySem.F.entry_set_init (check_set_init_1 ty1 ?_)) fun r2 s2 got2 => ?_
    · obtain ⟨ob, at2, cl, nn, dt⟩ := hl
      obtain ⟨_, od, _, os⟩ := ob
      simp only at cl dt
      subst cl dt
      have at3 := Heap.get?_push_of_some (bareSetI led) at2
      have y8 := PySem.F.sub_list_set
      have y9 := PySem.F.sub_list_frozenset
      have y0 : (Value.type "list" == Value.type "dict") = false := by decide
      have lst1 : (s.heap.push (bareSetI led)).IsList l its := ⟨_, at3, rfl, nn, rfl⟩
      unfold Builtin.«set.__init__» noKeywords Builtin.Frozenset.updateFrom
      generalize hit : pyIter = it
      wp_walk
      subst hit
      refine wpAny_pyIter_list lst1 (wpAny_bind (wpAny_runValue ?_))
      have low : l < s.heap.objs.size := Heap.lt_size at2
      have apart : l ≠ (s.heap.push (bareSetI led)).objs.size := by
        rw [Heap.size_push]
        exact Nat.ne_of_lt (Nat.lt_succ_of_lt low)
      have off : s.heap.objs.size ∉ [(s.heap.push (bareSetI led)).objs.size, l] := by
        rw [Heap.size_push]
        simp only [List.mem_cons, List.not_mem_nil, or_false, not_or]
        exact ⟨Nat.ne_of_lt (Nat.lt_succ_self _), Nat.ne_of_gt low⟩
      have len : xs.length = its.size := by
        rw [← ints_lenI hx, Array.length_toList]
      refine walk_intoI ((Walks.list (by simp [calm]) _ l apart its).toS) off xs len few (fun i v hv => ints_atI hx i v (by rw [Array.getElem?_toList]; exact hv)) its.size 0 _ (by omega) ⟨⟨_, Heap.get?_push_size _ rfl, rfl, rfl⟩, lst1.push _⟩ ?first ?last
      case first =>
        exact bare_hasI (led := led) (Heap.get?_push_of_some _ at1)
      case last =>
        intro s3 mv has
        obtain ⟨h3, g3, d3, t3, o3⟩ := s3
        have e1 : g3 = s.gens := mv.gens
        have e2 : d3 = s.drawn := mv.drawn
        have e3 : o3 = s.os := mv.os
        subst e1 e2 e3
        change wpAny _ _ _ _ _ _
        refine wpAny_pure ?_
        change wpAny _ _ (ret Value.none) _ _ _
        refine wpAny_pure ⟨rfl, h3, t3, rfl, has, fun b o lt e => mv.heap b o ?_ (Heap.get?_push_of_some _ (Heap.get?_push_of_some _ e))⟩
        rw [Heap.size_push]
        simp only [List.mem_cons, List.not_mem_nil, or_false, not_or]
        exact ⟨Nat.ne_of_lt lt, Nat.ne_of_lt (Nat.lt_succ_of_lt lt)⟩
    · match r2, got2 with
      | .error e, got2 => exact got2
      | .ok .next, got2 => exact got2.elim
      | .ok .brk, got2 => exact got2.elim
      | .ok .cont, got2 => exact got2.elim
      | .ok (.ret u), got2 =>
        obtain ⟨rfl, h2, tk, rfl, has, old⟩ := got2
        repeat (any_goals (first | assumption | wp_step))
        exact told h2 tk has old
end
/-- the set at a, of these texts -/
def SetI (P : Program) (w : World) (a : Addr) (xs : List Int) : HO := .ext fun h => IntSet P w h a xs
section
variable {X : Cx}
def rSetI (P : Program) (w : World) (K : PySem.W.Frag) : List V → Hp → VK → Prop := fun vs H Q => ∃ (l : Addr) (xs : List Int), vs = [.ref l] ∧ SqL K H l (xs.map V.int) ∧ xs.length ≤ 4000 ∧ ∀ p, H p = none → Q (.ref p) (upd H p (SetI P w p xs))
theorem setIK {K : PySem.W.Frag} {P : Program} {w : World} (h : X.K = K) (hP : X.prog = P) (hw : X.w = w) (hc : X.calm = true) : CallR X (.type "set") (rSetI P w K) := by
  subst h hP hw
  intro pins s σ H vs us Q I rel told
  obtain ⟨l, xs, rfl, hl, few, q⟩ := told
  obtain ⟨u, rfl, ru⟩ := vals1 rel
  cases ru
  obtain ⟨its, rv, pl, hz⟩ := I.list hl
  have len := rv.length
  rw [List.length_map] at len
  refine set_listI (I.ok.hd hc) pl.isList (by simpa using intsAre_of rv) (by rw [List.size_toArray, ← len]; unfold scanBound; omega) fun h2 tk has old => ?_
  have ob : ∃ o, h2.get? s.heap.objs.size = some o := by
    obtain ⟨n, ⟨o, _, _, _, ho, _⟩, _⟩ := has
    exact ⟨o, ho⟩
  refine ⟨.ref s.heap.objs.size, _, I.laid (o := SetI X.prog X.w s.heap.objs.size xs) (fun b o e => old b o (Heap.lt_size e) e) (Nat.le_refl _) ⟨has, ob, fun h3 h4 t k => IntSet.at t k⟩, rfl, q _ (I.hok.fresh (Nat.le_refl _))⟩
def rLenI (P : Program) (w : World) : List V → Hp → VK → Prop := fun vs H Q => ∃ (a : Addr) (xs : List Int), vs = [.ref a] ∧ H a = some (SetI P w a xs) ∧ xs.length ≤ 4000 ∧ ∀ n : Nat, CntI n xs → Q (.int n) H
theorem lenIK {P : Program} {w : World} (hP : X.prog = P) (hw : X.w = w) : CallR X (.builtin "len") (rLenI P w) := by
  subst hP hw
  intro pins s σ H vs us Q I rel told
  obtain ⟨a, xs, rfl, ha, few, q⟩ := told
  obtain ⟨u, rfl, ru⟩ := vals1 rel
  cases ru
  obtain ⟨n, ⟨o, es, ep, t, ho, hex, hd, _, _, _, hf, hn⟩, cn⟩ := (I.hok a _ ha).1
  refine call_len_set ho hex hd hf (by have := cn.2.2; rw [hn]; omega) ⟨.int n, H, I.tok _, ⟨_, by rw [hn]⟩, q n cn⟩
end
end NL

/-! sequences against empty ones; xs[::-1] of a tuple; data with their dicts, repr and str of them -/
namespace NL
open PySem PySem.Spec PyProof.Rows L2 Evl
section
variable {X : Cx} {K : PySem.W.Frag}
def rEqT0 (K : PySem.W.Frag) (f : Bool → Bool) : R2 := fun x y H Q => ∃ a b xs, x = .ref a ∧ y = .ref b ∧ SqT K H a xs ∧ SqT K H b [] ∧ Q (.bl (f xs.isEmpty)) H
def rEqL0 (K : PySem.W.Frag) (f : Bool → Bool) : R2 := fun x y H Q => ∃ a b xs, x = .ref a ∧ y = .ref b ∧ SqL K H a xs ∧ SqL K H b [] ∧ Q (.bl (f xs.isEmpty)) H
theorem vals0 {us : List Value} (h : Vals [] us) : us = [] := by cases h; rfl
theorem vals_isE {xs : List V} {us : List Value} (h : Vals xs us) : us.isEmpty = xs.isEmpty := by
  cases h <;> rfl
theorem size_isE (us : List Value) : (us.toArray.size == ([] : List Value).toArray.size) = us.isEmpty := by
  cases us <;> simp
theorem eqT0K (h : X.K = K) (hu : X.A.units < cLine) : OpR X (compareOp .Eq) (rEqT0 K id) := by
  subst h
  intro pins s σ H x y v u Q I rx ry told
  obtain ⟨a, b, xs, rfl, rfl, ha, hb, q⟩ := told
  cases rx
  cases ry
  obtain ⟨its, r1, p1, _⟩ := I.tuple ha
  obtain ⟨its2, r2, p2, _⟩ := I.tuple hb
  have e := vals0 r2
  subst e
  refine SeqAt.eq_tupleAt (e := fun _ => true) p1 p2 hu (fun j _ h2 => absurd h2 (by simp)) ?_
  refine ⟨.bl xs.isEmpty, H, I, ?_, q⟩
  rw [size_isE, vals_isE r1]
  simp
  rfl
theorem neT0K (h : X.K = K) (hu : X.A.units < cLine) : OpR X (compareOp .NotEq) (rEqT0 K not) := by
  subst h
  intro pins s σ H x y v u Q I rx ry told
  obtain ⟨a, b, xs, rfl, rfl, ha, hb, q⟩ := told
  cases rx
  cases ry
  obtain ⟨its, r1, p1, _⟩ := I.tuple ha
  obtain ⟨its2, r2, p2, _⟩ := I.tuple hb
  have e := vals0 r2
  subst e
  refine SeqAt.RcNeAt.tuples (e := fun _ => true) p1 p2 hu (fun j _ h2 => absurd h2 (by simp)) _ _ _ _ ?_
  refine ⟨.bl (!xs.isEmpty), H, I, ?_, q⟩
  rw [size_isE, vals_isE r1]
  simp
  rfl
theorem eqL0K (h : X.K = K) (hu : X.A.units < cLine) : OpR X (compareOp .Eq) (rEqL0 K id) := by
  subst h
  intro pins s σ H x y v u Q I rx ry told
  obtain ⟨a, b, xs, rfl, rfl, ha, hb, q⟩ := told
  cases rx
  cases ry
  obtain ⟨its, r1, p1, _⟩ := I.list ha
  obtain ⟨its2, r2, p2, _⟩ := I.list hb
  have e := vals0 r2
  subst e
  have ie := vals_isE r1
  cases its with
  | nil =>
    refine SeqAt.eq_listAt (e := fun _ => true) p1.isList p2.isList rfl hu (fun j _ h2 => absurd h2 (by simp)) ?_
    refine ⟨.bl xs.isEmpty, H, I, ?_, q⟩
    rw [← ie]
    rfl
  | cons i r =>
    refine SeqAt.eq_list_lengthsAt p1.isList p2.isList (by simp) hu ?_
    refine ⟨.bl xs.isEmpty, H, I, ?_, q⟩
    rw [← ie]
    rfl
end
/-! ### xs[::-1] of a tuple -/
theorem back_places (n : Nat) : Builtin.Slice.sliceAdjust none none (-1) (n : Int) = ((n : Int) - 1, -1) ∧ Builtin.Slice.slicePlaces ((n : Int) - 1) (-1) (-1) = n := by
  constructor
  · simp [Builtin.Slice.sliceAdjust]
  · unfold Builtin.Slice.slicePlaces
    simp
    omega
theorem back_items (xs : Array Value) : ((List.range xs.size).filterMap fun (k : Nat) => xs[(((xs.size : Int) - 1) + (k : Int) * (-1)).toNat]?).toArray = xs.toList.reverse.toArray := by
  have e : (List.range xs.size).filterMap (fun (k : Nat) => xs[(((xs.size : Int) - 1) + (k : Int) * (-1)).toNat]?) = ((List.range xs.size).map fun k => xs.size - 1 - k).filterMap (fun j => xs[j]?) := by
    rw [List.filterMap_map]
    have all : ∀ l : List Nat, (∀ k ∈ l, k < xs.size) → l.filterMap (fun (k : Nat) => xs[(((xs.size : Int) - 1) + (k : Int) * (-1)).toNat]?) = l.filterMap ((fun j => xs[j]?) ∘ fun k => xs.size - 1 - k) := by
      intro l
      induction l with
      | nil => intro _; rfl
      | cons k l ih =>
        intro h
        have := h k (List.mem_cons_self ..)
        have e2 : (((xs.size : Int) - 1) + (k : Int) * (-1)).toNat = xs.size - 1 - k := by omega
        rw [List.filterMap_cons, List.filterMap_cons, e2, ih fun y hy => h y (List.mem_cons_of_mem _ hy)]
        rfl
    exact all _ fun k hk => List.mem_range.mp hk
  rw [e, PySem.W.krv_range, List.filterMap_reverse, PySem.W.krv_all]
section
variable {P : Program} {w : World} {A : Around} {E : Value → Shared → Prop} {s : Shared}
theorem getItem_back {t sl : Addr} {its : Array Value} {vk : Value} {Q : Value → Shared → Prop} (ht : IsTup s.heap t its) (hs : s.heap.IsSliceOf sl .none .none vk) (pk : IsPart vk (some (-1))) (few : its.size ≤ sizeLine)
    (q : Q (.ref s.heap.objs.size) { s with heap := s.heap.push { cls := .type "tuple", data := .seq its.toList.reverse.toArray } }) : wpAny (model P w) A (getItem (.ref t) (.ref sl)) Q E s := by
  have fits : sizeOk (.seq its.toList.reverse.toArray) := by
    change its.toList.reverse.toArray.size ≤ sizeLine
    simpa using few
  obtain ⟨os, h1, h2, h3⟩ := id hs
  have ty : s.TypeIs (.ref sl) "slice" := ⟨os, h1, h2⟩
  unfold getItem
  try with_reducible refine wpAny_holding ?_
  first | refine wpAny_bind (wpAny_pure ?_) | skip
  refine wpAny_bind (wpAny_sequenceKey ht.typeIs (by decide) ?_)
  refine wpAny_bind (wpAny_callSpecial?_slot (name := Str.ofString "__getitem__") ht.typeIs PyProof.Rows.slot_tuple_getitem (wpAny_call_entry PyProof.Rows.slot_tuple_getitem ht.typeIs entry_tuple_getitem ?_ (args_tuple_getitem _ _)))
  change wpAny _ _ (Builtin.Tuple.tupleItemsOf (.ref t) >>= _) _ _ _
  refine wpAny_bind (tupleItemsOf_ ht (wpAny_bind (wpAny_typeOf ty ?_)))
  rw [if_pos (by decide)]
  refine wpAny_bind ?_
  unfold Builtin.Slice.sliceApplied Builtin.Slice.sliceFields
  refine wpAny_bind (wpAny_bind (wpAny_field h1 h3 (x := .none) rfl (wpAny_bind (wpAny_field h1 h3 (x := .none) rfl (wpAny_bind (wpAny_field h1 h3 (x := vk) rfl (wpAny_pure ?_)))))))
  refine wpAny_bind (HT.slicePart_ pk ?_)
  change wpAny _ _ (if ((-1 : Int) == 0) = true then _ else _) _ _ _
  rw [if_neg (by decide)]
  refine wpAny_bind (slicePart_none (wpAny_bind (slicePart_none (wpAny_bind (wpAny_pure ?_)))))
  change wpAny _ _ (match Builtin.Slice.sliceAdjust none none (-1) (its.size : Int) with | (lo, hi) => pure (lo, (-1 : Int), Builtin.Slice.slicePlaces lo hi (-1))) _ _ _
  rw [(back_places its.size).1]
  change wpAny _ _ (pure ((its.size : Int) - 1, (-1 : Int), Builtin.Slice.slicePlaces ((its.size : Int) - 1) (-1) (-1))) _ _ _
  rw [(back_places its.size).2]
  refine wpAny_pure ?_
  change wpAny _ _ (if (((its.size : Int) - 1 == 0 && (-1 : Int) == 1 && its.size == its.size) = true) then _ else _) _ _ _
  rw [if_neg (by simp), back_items]
  first
    | exact wpAny_bind (m := Builtin.Tuple.tupleExact _) (wpAny_newObj_type (wpAny_pure ⟨_, rfl, wpAny_pure q⟩) fits)
    | exact wpAny_bind (m := Builtin.Tuple.tupleExact _) (wpAny_newObj_type (wpAny_bind (wpAny_pure (wpAny_pure ⟨_, rfl, wpAny_pure q⟩))) fits)
    | exact wpAny_bind (wpAny_bind (m := Builtin.Tuple.tupleExact _) (wpAny_newObj_type (wpAny_pure (wpAny_pure ⟨_, rfl, wpAny_pure q⟩)) fits))
    | exact wpAny_bind (wpAny_bind (m := Builtin.Tuple.tupleExact _) (wpAny_newObj_type (wpAny_pure ⟨_, rfl, wpAny_pure q⟩) fits))
end
def tRevT (K : PySem.W.Frag) (te : TE) : TE := fun σ H Q => te σ H fun x H1 => ∃ a xs, x = .ref a ∧ SqT K H1 a xs ∧ ∀ p, H1 p = none → Q (.ref p) (upd H1 p (.tup xs.reverse))
section
variable {X : Cx}
theorem pe_revT {e : Expr} {te : TE} {k : Nat} {p1 p2 p3 pos : Pos} {K : PySem.W.Frag} (hK : X.K = K) (he : PE X e te) : PE X (.Subscript e (.Slice none none (some (.UnaryOp .USub (.Constant (.int 1) k p1) p2)) p3) pos) (tRevT K te) := by
  subst hK
  constructor
  intro pins s σ H Q I reading
  refine Subscript_ (thn (he.run pins s σ H _ I reading) fun v s1 got => ?_)
  obtain ⟨x, H1, I1, r1, a, xs, rfl, hx, q⟩ := got
  cases r1
  have part : PO X (some (.UnaryOp .USub (.Constant (.int 1) k p1) p2)) (tPart (tUn (rU fun i => .int (-i)) (tC (.int 1)))) := po_some (pe_un un_neg pe_int)
  refine wpAny_Slice (thn (po_none.run pins s1 σ H1 (fun o H2 => o = none ∧ H2 = H1) I1 ⟨rfl, rfl⟩) fun v2 s2 g2 => ?_)
  obtain ⟨o2, H2, I2, p2', rfl, rfl⟩ := g2
  refine thn (po_none.run pins s2 σ H2 (fun o H3 => o = none ∧ H3 = H2) I2 ⟨rfl, rfl⟩) fun v3 s3 g3 => ?_
  obtain ⟨o3, H3, I3, p3', rfl, rfl⟩ := g3
  refine thn (part.run pins s3 σ H3 (fun o H4 => o = some (-1) ∧ H4 = H3) I3 ⟨1, rfl, -1, rfl, rfl, rfl⟩) fun v4 s4 g4 => ?_
  obtain ⟨o4, H4, I4, p4', rfl, rfl⟩ := g4
  cases p2'
  cases p3'
  have I5 : Inv X pins σ H4 { s4 with heap := s4.heap.push { cls := .type "slice", data := .fields #[Value.none, Value.none, v4] } } := I4.kept (t' := s4.toks) fun b ob z => Heap.get?_push_of_some _ z
  obtain ⟨its, r, ht, hz⟩ := I5.tuple hx
  have len := r.length
  change wpAny (model X.prog X.w) X.A (subscriptTail e (.Slice none none (some (.UnaryOp .USub (.Constant (.int 1) k p1) p2)) p3) (.ref a) (.ref s4.heap.objs.size)) (EP X pins σ Q) X.xe { s4 with heap := s4.heap.push { cls := .type "slice", data := .fields #[Value.none, Value.none, v4] } }
  refine tail_any (ops := [.ref a, .ref s4.heap.objs.size]) ht.typeIs PyProof.Rows.slot_tuple_getitem.lookup ?_ (by with_unfolding_all rfl)
  refine getItem_back ht (Heap.IsSliceOf.new _ Value.none Value.none v4) p4' (by rw [List.size_toArray, ← len]; exact hz) ?_
  refine ⟨.ref _, _, I5.laid (t' := s4.toks) (o := .tup xs.reverse) (fun b ob z => Heap.get?_push_of_some _ z) (Nat.le_refl _) ?_, rfl, q _ (I5.hok.fresh (Nat.le_refl _))⟩
  refine ⟨by rw [List.length_reverse]; exact hz, its.reverse, r.reverse, _, Heap.get?_push_size _ rfl, rfl, 0, by simp⟩
end
/-! ### data with all that is in them -/
mutual
inductive Dy (K : PySem.W.Frag) (H : Hp) : V → PyData → Prop
  | non : Dy K H .non .none
  | bl (b : Bool) : Dy K H (.bl b) (.bool b)
  | int (i : Int) : Dy K H (.int i) (.int i)
  | str (x : Str) : Dy K H (.str x) (.str x)
  | lst {a : Addr} {xs : List V} {ds : List PyData} : H a = some (.lst xs) → DyAll K H xs ds → Dy K H (.ref a) (.list ds)
  | tup {a : Addr} {xs : List V} {ds : List PyData} : SqT K H a xs → DyAll K H xs ds → Dy K H (.ref a) (.tuple ds)
  | dct {a : Addr} : H a = some (.dK []) → Dy K H (.ref a) (.dict [])
  | dc1 {a : Addr} {z : Str} {v : V} {d : PyData} : H a = some (.dK [(Sum.inr z, v)]) → Dy K H v d → Dy K H (.ref a) (.dict [(.str z, d)])
inductive DyAll (K : PySem.W.Frag) (H : Hp) : List V → List PyData → Prop
  | nil : DyAll K H [] []
  | cons {v : V} {vs : List V} {d : PyData} {ds : List PyData} : Dy K H v d → DyAll K H vs ds → DyAll K H (v :: vs) (d :: ds)
end
mutual
theorem dy_mono {K : PySem.W.Frag} {H H' : Hp} (e : Ex H H') : ∀ {d : PyData} {v : V}, Dy K H v d → Dy K H' v d
  | .none, _, h => by cases h; exact .non
  | .bool b, _, h => by cases h; exact .bl b
  | .int i, _, h => by cases h; exact .int i
  | .str x, _, h => by cases h; exact .str x
  | .list ds, _, h => by
    cases h with
    | lst hs ha => exact .lst (e _ _ hs) (dya_mono e ha)
  | .tuple ds, _, h => by
    cases h with
    | tup hs ha => exact .tup (ex_t e hs) (dya_mono e ha)
  | .dict [], _, h => by
    cases h with
    | dct hd => exact .dct (e _ _ hd)
  | .dict [(.str z, d)], _, h => by
    cases h with
    | dc1 hd hv => exact .dc1 (e _ _ hd) (dy_mono e hv)
theorem dya_mono {K : PySem.W.Frag} {H H' : Hp} (e : Ex H H') : ∀ {ds : List PyData} {vs : List V}, DyAll K H vs ds → DyAll K H' vs ds
  | [], _, h => by cases h; exact .nil
  | d :: ds, _, h => by
    cases h with
    | cons h1 h2 => exact .cons (dy_mono e h1) (dya_mono e h2)
end
mutual
theorem dy_dx {K : PySem.W.Frag} {H : Hp} : ∀ {d : PyData} {v : V}, Dy K H v d → Dx K H v d
  | .none, _, h => by cases h; exact .non
  | .bool b, _, h => by cases h; exact .bl b
  | .int i, _, h => by cases h; exact .int i
  | .str x, _, h => by cases h; exact .str x
  | .list ds, _, h => by
    cases h with
    | lst hs ha => exact .lst (sq_of hs) (dya_dx ha)
  | .tuple ds, _, h => by
    cases h with
    | tup hs ha => exact .tup hs (dya_dx ha)
  | .dict kvs, _, h => by
    cases h with
    | dct hd => exact .dct hd
    | dc1 hd _ => exact .dct hd
theorem dya_dx {K : PySem.W.Frag} {H : Hp} : ∀ {ds : List PyData} {vs : List V}, DyAll K H vs ds → DxAll K H vs ds
  | [], _, h => by cases h; exact .nil
  | d :: ds, _, h => by
    cases h with
    | cons h1 h2 => exact .cons (dy_dx h1) (dya_dx h2)
end
theorem pairs_one {P : Program} {w : World} {es : List DictEntry} {q : Key × Value} (h : Pairs (mixKind P w) es [q]) : ∃ en : DictEntry, es = [en] ∧ (mixKind P w).is q.1 en.key = true ∧ en.val = q.2 := by
  cases h with
  | cons h1 h2 t =>
    cases t
    exact ⟨_, rfl, h1, h2⟩
theorem key_str {P : Program} {w : World} {z : Str} {v : Value} (h : (mixKind P w).is (Sum.inr z) v = true) : ∃ t, v = .str z t := by
  rcases keyIs_shape (k := Sum.inr z) (v := v) h with ⟨i, t, e, _⟩ | ⟨x, t, e, r⟩
  · cases e
  · cases e
    exact ⟨t, r⟩
/-- the modules' dict lies apart from all that is made here -/
def Sy (K : PySem.W.Frag) (H : Hp) : Prop := (∃ o, K.lookup sysModules = some o) ∨ ∃ o u, H sysModules = some (.frz o u)
theorem Sy.ex {K : PySem.W.Frag} {H H' : Hp} (h : Sy K H) (e : Ex H H') : Sy K H' := by
  rcases h with h | ⟨o, u, h⟩
  · exact Or.inl h
  · exact Or.inr ⟨o, u, e _ _ h⟩
theorem Sy.kp {K : PySem.W.Frag} {H H' : Hp} {h l : Addr} (y : Sy K H) (A : Hand H h l) (k : Kp h l H H') : Sy K H' := by
  rcases y with y | ⟨o, u, y⟩
  · exact Or.inl y
  · obtain ⟨n, m⟩ := A.off y (fun _ z => by cases z)
    exact Or.inr ⟨o, u, k _ _ n m y⟩
section
variable {X : Cx} {pins : List (Addr × Obj)} {σ : L2.St} {H : Hp} {s : Shared}
theorem Sy.ne (I : Inv X pins σ H s) (y : Sy X.K H) {a : Addr} {o : HO} (h : H a = some o) (no : ∀ ob u, o ≠ .frz ob u) : a ≠ sysModules := by
  intro e
  subst e
  rcases y with ⟨ob, y⟩ | ⟨ob, u, y⟩
  · have := (I.bs _ _ (I.mod.kin _ _ y)).2
    rw [h] at this
    cases this
  · rw [h] at y
    cases y
    exact no _ _ rfl
mutual
theorem Dy.reads (I : Inv X pins σ H s) (y : Sy X.K H) : ∀ (d : PyData) (v : V) (u : Value), Dy X.K H v d → RelV v u → ∃ as, Reads s.heap u d as ∧ sysModules ∉ as
  | .none, _, _, h, r => by
    cases h
    cases r
    exact ⟨_, .none, by simp⟩
  | .bool b, _, _, h, r => by
    cases h
    cases r
    exact ⟨_, .bool b, by simp⟩
  | .int i, _, _, h, r => by
    cases h
    obtain ⟨t, rfl⟩ := r
    exact ⟨_, .int i t, by simp⟩
  | .str x, _, _, h, r => by
    cases h
    obtain ⟨t, rfl⟩ := r
    exact ⟨_, .str x t, by simp⟩
  | .list ds, _, _, h, r => by
    cases h with
    | lst hs ha =>
      cases r
      have ne := Sy.ne I y hs (fun _ _ z => by cases z)
      obtain ⟨its, rv, ⟨o, n, ho, hc, _, hd⟩, _⟩ := I.list (sq_of hs)
      obtain ⟨as, hr, hn⟩ := Dy.readsAll I y ds _ its ha rv
      exact ⟨_, .list ho hc hd hr, by simp only [List.mem_cons, not_or]; exact ⟨fun z => ne z.symm, hn⟩⟩
  | .tuple ds, _, _, h, r => by
    cases h with
    | tup hs ha =>
      cases r
      obtain ⟨its, rv, ⟨o, ho, hc, n, hd⟩, _⟩ := I.tuple hs
      obtain ⟨as, hr, hn⟩ := Dy.readsAll I y ds _ its ha rv
      exact ⟨_, .tuple ho hc hd hr, hn⟩
  | .dict [(.str z, d)], _, _, h, r => by
    cases h with
    | dc1 hd hv =>
      cases r
      obtain ⟨_, low, vs, rel, o, es, ep, ho, hex, hdt, hks, hp, _⟩ := dk_of I.hok hd
      have ne : ¬ sysModules = _ := fun z => (beq_eq_false_iff_ne.mp low) z.symm
      obtain ⟨q, rfl, hq1, hq2⟩ : ∃ q : Key × Value, vs = [q] ∧ (Sum.inr z : Key) = q.1 ∧ RelV _ q.2 := by
        cases rel with
        | cons r t =>
          cases t
          exact ⟨_, rfl, r.1, r.2⟩
      obtain ⟨en, he, hk, hval⟩ : ∃ en : DictEntry, es.toList = [en] ∧ (mixKind X.prog X.w).is q.1 en.key = true ∧ en.val = q.2 := pairs_one hp
      have hkey : ∃ t, en.key = .str z t := by
        rw [← hq1] at hk
        exact key_str hk
      obtain ⟨t, hkey⟩ := hkey
      obtain ⟨as, rd, hn⟩ := Dy.reads I y d _ _ hv (by rw [← hval] at hq2; exact hq2)
      have rk : Reads s.heap en.key (.str z) [] := by
        rw [hkey]
        exact .str z t
      refine ⟨_, .dict (kvs := [(.str z, d)]) ho hex.1 hdt (by rw [he]; exact .cons rk .nil) (by rw [he]; exact .cons rd .nil), ?_⟩
      simp only [List.append_nil, List.mem_append, List.mem_cons, List.not_mem_nil, or_false, not_or]
      exact ⟨ne, hn⟩
  | .dict [], _, _, h, r => by
    cases h with
    | dct hd =>
      cases r
      obtain ⟨_, low, vs, rel, o, es, ep, ho, hex, hdt, _, hp, _⟩ := dk_of I.hok hd
      cases rel
      have e0 : es.toList = [] := by
        cases h0 : es.toList with
        | nil => rfl
        | cons e r => rw [h0] at hp; cases hp
      have ne : ¬ sysModules = _ := fun z => (beq_eq_false_iff_ne.mp low) z.symm
      refine ⟨_, .dict (kvs := []) (as := []) (bs := []) ho hex.1 hdt (by rw [e0]; exact .nil) (by rw [e0]; exact .nil), ?_⟩
      simp only [List.append_nil, List.mem_singleton]
      exact ne
theorem Dy.readsAll (I : Inv X pins σ H s) (y : Sy X.K H) : ∀ (ds : List PyData) (vs : List V) (us : List Value), DyAll X.K H vs ds → Vals vs us → ∃ as, ReadsAll s.heap us ds as ∧ sysModules ∉ as
  | [], _, _, h, r => by
    cases h
    cases r
    exact ⟨_, .nil, by simp⟩
  | d :: ds, _, _, h, r => by
    cases h with
    | cons h1 h2 =>
      cases r with
      | cons r1 r2 =>
        obtain ⟨as, q1, n1⟩ := Dy.reads I y d _ _ h1 r1
        obtain ⟨bs, q2, n2⟩ := Dy.readsAll I y ds _ _ h2 r2
        exact ⟨_, .cons q1 q2, by rw [List.mem_append]; exact fun z => z.elim n1 n2⟩
end
end
/-- data whose text fits, dicts among them -/
def showsY (d : PyData) : Prop := d.showable = true ∧ d.depth ≤ 64 ∧ d.shown.length ≤ 10000000
def rReprY (K : PySem.W.Frag) : List V → Hp → VK → Prop := fun xs H Q => ∃ v d, xs = [v] ∧ Dy K H v d ∧ showsY d ∧ Sy K H ∧ Q (.str d.shown) H
def rStrY (K : PySem.W.Frag) : List V → Hp → VK → Prop := fun xs H Q => ∃ v d, xs = [v] ∧ Dy K H v d ∧ (∀ z, d ≠ .str z) ∧ showsY d ∧ Sy K H ∧ Q (.str d.shown) H
section
variable {X : Cx} {K : PySem.W.Frag}
theorem reprYK (h : X.K = K) (quiet : X.A.guards = some []) (room : X.A.units + 100 < cLine) : CallR X (.builtin "repr") (rReprY K) := by
  subst h
  intro pins s σ H xs us Q I rel told
  obtain ⟨v, d, rfl, data, ⟨s1, s3, s4⟩, y, q⟩ := told
  obtain ⟨u, rfl, ru⟩ := vals1 rel
  have s5 : d.shown.length ≤ sizeLine := Nat.le_trans s4 (by decide)
  have fin : ∀ (s' : Shared) (t : Tok), Inv X pins σ H s' → EP X pins σ Q (.str d.shown t) s' := fun s' t I' => ⟨.str d.shown, H, I', ⟨t, rfl⟩, q⟩
  have heap : ∀ a, u = .ref a → wpAny (model X.prog X.w) X.A (call (.builtin "repr") [u]) (EP X pins σ Q) X.xe s := by
    rintro a rfl
    obtain ⟨as, reads, no⟩ := Dy.reads I y d v _ data ru
    exact repr_of_reads' reads s1 (fun _ => no) quiet (by omega) (fun b o e => e) (fun h' u tk kept => fin _ _ (I.kept kept)) s5
  cases data with
  | non =>
    cases ru
    refine PySem.P.repr_of_none ?_
    have := fin { s with toks := s.toks + 1 } s.toks (I.tok _)
    simp only [PyData.shown] at this
    exact this
  | bl b =>
    cases ru
    refine PySem.P.repr_of_bool ?_
    have := fin { s with toks := s.toks + 1 } s.toks (I.tok _)
    simp only [PyData.shown] at this
    exact this
  | int i =>
    obtain ⟨t, rfl⟩ := ru
    refine PySem.P.repr_of_int (by simpa [PyData.showable] using s1) ?_
    have := fin { s with toks := s.toks + 1 } s.toks (I.tok _)
    simp only [PyData.shown] at this
    exact this
  | str x =>
    obtain ⟨t, rfl⟩ := ru
    simp only [PyData.shown] at s5
    refine PySem.P.repr_of_str ?_ s5
    have := fin { s with toks := s.toks + 1 } s.toks (I.tok _)
    simp only [PyData.shown] at this
    exact this
  | lst _ _ => cases ru; exact heap _ rfl
  | tup _ _ => cases ru; exact heap _ rfl
  | dct _ => cases ru; exact heap _ rfl
  | dc1 _ _ => cases ru; exact heap _ rfl
theorem strYK (h : X.K = K) (quiet : X.A.guards = some []) (room : X.A.units + 100 < cLine) : CallR X (.type "str") (rStrY K) := by
  subst h
  intro pins s σ H xs us Q I rel told
  obtain ⟨v, d, rfl, data, nostr, ⟨s1, s3, s4⟩, y, q⟩ := told
  obtain ⟨u, rfl, ru⟩ := vals1 rel
  have s5 : d.shown.length ≤ sizeLine := Nat.le_trans s4 (by decide)
  have fin : ∀ (s' : Shared) (t : Tok), Inv X pins σ H s' → EP X pins σ Q (.str d.shown t) s' := fun s' t I' => ⟨.str d.shown, H, I', ⟨t, rfl⟩, q⟩
  have heap : ∀ a, u = .ref a → wpAny (model X.prog X.w) X.A (call (.type "str") [u]) (EP X pins σ Q) X.xe s := by
    rintro a rfl
    obtain ⟨as, reads, no⟩ := Dy.reads I y d v _ data ru
    exact str_of_reads reads s1 (fun _ => no) quiet (by omega) (fun b o e => e) (fun h' u tk kept => fin _ _ (I.kept kept)) s5
  cases data with
  | non =>
    cases ru
    refine PySem.P.str_of_none ?_
    have := fin { s with toks := s.toks + 1 } s.toks (I.tok _)
    simp only [PyData.shown] at this
    exact this
  | bl b =>
    cases ru
    refine PySem.P.str_of_bool ?_
    have := fin { s with toks := s.toks + 1 } s.toks (I.tok _)
    simp only [PyData.shown] at this
    exact this
  | int i =>
    obtain ⟨t, rfl⟩ := ru
    refine PySem.P.str_of_int (by simpa [PyData.showable] using s1) ?_
    have := fin { s with toks := s.toks + 1 } s.toks (I.tok _)
    simp only [PyData.shown] at this
    exact this
  | str x => exact absurd rfl (nostr x)
  | lst _ _ => cases ru; exact heap _ rfl
  | tup _ _ => cases ru; exact heap _ rfl
  | dct _ => cases ru; exact heap _ rfl
  | dc1 _ _ => cases ru; exact heap _ rfl
end
end NL

/-! how much a datum weighs, which signs and numbers are in it; what is set aside of a heap -/
namespace NL
open PySem PySem.Spec PyProof.Rows L2 Evl
def asc (x : Str) : Prop := ∀ c ∈ x.cps.toList, c < 128
theorem asc_app {a b : Str} (ha : asc a) (hb : asc b) : asc (a ++ b) := fun c hc => by
  rcases mem_cps_append.mp hc with h | h
  · exact ha c h
  · exact hb c h
theorem asc_join {sep : Str} (hs : asc sep) {ts : List Str} (ht : ∀ t ∈ ts, asc t) : asc (Str.join sep ts) := fun c hc => by
  rcases (mem_join sep c ts).mp hc with ⟨t, h1, h2⟩ | ⟨_, h⟩
  · exact ht t h1 c h2
  · exact hs c h
theorem asc_lit {s : String} (h : s.toList.all (fun c => decide (c.toNat < 128)) = true) : asc (Str.ofString s) := fun c hc => by
  rw [signs_ofString] at hc
  obtain ⟨ch, h1, rfl⟩ := List.mem_map.mp hc
  exact of_decide_eq_true (List.all_eq_true.mp h ch h1)
theorem asc_int (i : Int) : asc (Str.ofString (toString i)) := fun c hc => by
  rw [signs_ofString] at hc
  obtain ⟨ch, h1, rfl⟩ := List.mem_map.mp hc
  rcases int_sign i ch h1 with h | h
  · have := digit_range h
    omega
  · subst h
    decide
theorem asc_from : ∀ {ts : List Str} {k : Nat} {acc : Str}, asc acc → (∀ t ∈ ts, asc t) → asc (textFrom k acc ts)
  | [], _, _, h, _ => h
  | t :: ts, k, acc, h, ht => by
    unfold textFrom
    refine asc_from (asc_app (asc_app h ?_) (ht t (List.mem_cons_self ..))) fun u hu => ht u (List.mem_cons_of_mem _ hu)
    split
    · exact asc_lit (by decide)
    · exact asc_lit (by decide)
theorem char_asc : ∀ q, q = 34 ∨ q = 39 → ∀ c, c < 128 → ∀ x ∈ Builtin.Str.reprChar q c, x < 128 := by
  have h : ((List.range 128).all fun c => ((Builtin.Str.reprChar 34 c).all fun x => decide (x < 128)) && ((Builtin.Str.reprChar 39 c).all fun x => decide (x < 128))) = true := by decide +kernel
  intro q hq c hc x hx
  have h1 := List.all_eq_true.mp h c (List.mem_range.mpr hc)
  rw [Bool.and_eq_true] at h1
  rcases hq with rfl | rfl
  · exact of_decide_eq_true (List.all_eq_true.mp h1.1 x hx)
  · exact of_decide_eq_true (List.all_eq_true.mp h1.2 x hx)
theorem up_asc : ∀ c, c < 128 → ∀ x ∈ Unicode.upperOf c, x < 128 := by
  have h : ((List.range 128).all fun c => (Unicode.upperOf c).all fun x => decide (x < 128)) = true := by decide +kernel
  intro c hc x hx
  exact of_decide_eq_true (List.all_eq_true.mp (List.all_eq_true.mp h c (List.mem_range.mpr hc)) x hx)
theorem asc_repr {x : Str} (h : asc x) : asc (reprText x) := by
  have hq : reprQuote x = 34 ∨ reprQuote x = 39 := by
    unfold reprQuote
    split
    · exact Or.inl rfl
    · exact Or.inr rfl
  have q1 : reprQuote x < 128 := by rcases hq with h | h <;> omega
  have all : ∀ (l : List Nat) (acc : Array Nat), (∀ c ∈ acc.toList, c < 128) → (∀ c ∈ l, c < 128) → ∀ c ∈ (l.foldl (fun out c => out ++ (Builtin.Str.reprChar (reprQuote x) c).toArray) acc).toList, c < 128 := by
    intro l
    induction l with
    | nil => intro acc ha _; exact ha
    | cons a l ih =>
      intro acc ha hl
      rw [List.foldl_cons]
      refine ih _ (fun c hc => ?_) fun c hc => hl c (List.mem_cons_of_mem _ hc)
      rw [Array.toList_append] at hc
      rcases List.mem_append.mp hc with hc | hc
      · exact ha c hc
      · exact char_asc _ hq a (hl a (List.mem_cons_self ..)) c (by simpa using hc)
  intro c hc
  unfold reprText at hc
  simp only [Array.toList_push, List.mem_append, List.mem_singleton] at hc
  rcases hc with hc | hc
  · rw [← Array.foldl_toList] at hc
    exact all _ #[reprQuote x] (fun c hc => by simp at hc; omega) h c hc
  · omega
theorem asc_upper {x : Str} (h : asc x) : asc (Txt.upper x) := by
  intro c hc
  unfold Txt.upper placed at hc
  simp only [Array.mem_toList_iff, Array.mem_flatten, Array.mem_mapIdx] at hc
  obtain ⟨a, ⟨i, hi, rfl⟩, hc⟩ := hc
  exact up_asc x.cps[i] (h _ (by simp)) c (by simpa using hc)
theorem asc_cut {x : Str} (h : asc x) {f : List Nat → List Nat} (hf : ∀ l, ∀ c ∈ f l, c ∈ l) : asc ⟨(f x.cps.toList).toArray⟩ := fun c hc => h c (hf _ c (by simpa using hc))
mutual
def wt : PyData → Nat
  | .str s => 10 * s.length + 10
  | .int _ => 60
  | .list ds => wts ds + 10
  | .tuple ds => wts ds + 10
  | .dict kvs => wtk kvs + 10
  | _ => 10
def wts : List PyData → Nat
  | [] => 0
  | d :: ds => wt d + wts ds
def wtk : List (PyData × PyData) → Nat
  | [] => 0
  | (k, v) :: r => wt k + wt v + wtk r
end
mutual
def okD (B : Nat) : PyData → Prop
  | .str s => asc s
  | .int i => i.natAbs ≤ B
  | .list ds => okDs B ds
  | .tuple ds => okDs B ds
  | .dict kvs => okK B kvs
  | _ => True
def okDs (B : Nat) : List PyData → Prop
  | [] => True
  | d :: ds => okD B d ∧ okDs B ds
def okK (B : Nat) : List (PyData × PyData) → Prop
  | [] => True
  | (k, v) :: r => okD B k ∧ okD B v ∧ okK B r
end
theorem list_len (ts : List Str) : (listText ts).length ≤ (ts.map fun t => t.length + 2).sum + 3 := by
  have all : ∀ (ts : List Str) (k : Nat) (acc : Str), (textFrom k acc ts).length ≤ acc.length + (ts.map fun t => t.length + 2).sum := by
    intro ts
    induction ts with
    | nil => intro k acc; simp [textFrom]
    | cons t ts ih =>
      intro k acc
      have h := ih (k + 1) (acc ++ (if k > 0 then ", " else "" : String) ++ t)
      have e : (Str.ofString (if k > 0 then ", " else "" : String)).length ≤ 2 := by
        split
        · decide +kernel
        · decide +kernel
      rw [Str.length_append, Str.length_append] at h
      simp only [textFrom, List.map_cons, List.sum_cons]
      omega
  unfold listText
  rw [Str.length_append]
  have h := all ts 0 "["
  have e1 : ("[" : Str).length = 1 := by decide +kernel
  have e2 : (Str.ofString "]").length = 1 := by decide +kernel
  omega
mutual
/-- what a datum's text has -/
theorem text_facts {B : Nat} (hB : B < 2 ^ 44) : ∀ d : PyData, okD B d → d.showable = true ∧ d.shown.length + 2 ≤ wt d ∧ asc d.shown
  | .none, _ => ⟨by simp [PyData.showable], by simp only [PyData.shown, wt]; decide +kernel, by simp only [PyData.shown]; exact asc_lit (by decide)⟩
  | .bool b, _ => by
    refine ⟨by simp [PyData.showable], ?_, ?_⟩
    · simp only [PyData.shown, wt]
      cases b
      · decide +kernel
      · decide +kernel
    · simp only [PyData.shown]
      cases b
      · exact asc_lit (by decide)
      · exact asc_lit (by decide)
  | .int i, h => by
    simp only [okD] at h
    have bl : i.natAbs.log2 < 44 := by
      by_cases h0 : i.natAbs = 0
      · rw [h0]; decide
      · exact (Nat.log2_lt h0).mpr (by omega)
    refine ⟨?_, ?_, ?_⟩
    · simp only [PyData.showable, decide_eq_true_eq]
      omega
    · simp only [PyData.shown, wt]
      have := int_text_length_le (a := i) (k := 44) (by decide) bl
      rw [PySem.ofString_length]
      omega
    · simp only [PyData.shown]
      exact asc_int i
  | .str s, h => by
    simp only [okD] at h
    refine ⟨by simp [PyData.showable], ?_, ?_⟩
    · simp only [PyData.shown, wt]
      have := StrLaws.reprText_len s (fun c hc => Nat.lt_trans (h c hc) (by decide))
      omega
    · simp only [PyData.shown]
      exact asc_repr h
  | .list ds, h => by
    simp only [okD] at h
    obtain ⟨i1, i2, i3⟩ := texts_facts hB ds h
    refine ⟨by simp only [PyData.showable]; exact i1, ?_, ?_⟩
    · simp only [PyData.shown, wt, shownAll_map]
      have := list_len (ds.map PyData.shown)
      omega
    · simp only [PyData.shown, shownAll_map]
      exact asc_app (asc_from (asc_lit (by decide)) i3) (asc_lit (by decide))
  | .tuple ds, h => by
    simp only [okD] at h
    obtain ⟨i1, i2, i3⟩ := texts_facts hB ds h
    refine ⟨by simp only [PyData.showable]; exact i1, ?_, ?_⟩
    · simp only [PyData.shown, wt, shownAll_map]
      have := tuple_len (ds.map PyData.shown)
      omega
    · simp only [PyData.shown, shownAll_map]
      refine asc_app (asc_app (asc_lit (by decide)) (asc_join (asc_lit (by decide)) i3)) ?_
      split
      · exact asc_lit (by decide)
      · exact asc_lit (by decide)
  | .dict kvs, h => by
    simp only [okD] at h
    obtain ⟨i1, i2, i3⟩ := textk_facts hB kvs h
    refine ⟨by simp only [PyData.showable]; exact i1, ?_, ?_⟩
    · simp only [PyData.shown, wt, dictText]
      rw [Str.length_append, Str.length_append]
      have e1 : ("{" : Str).length = 1 := by decide +kernel
      have e2 : (Str.ofString "}").length = 1 := by decide +kernel
      have e3 : (", " : Str).length = 2 := by decide +kernel
      have hj := join_len ", " (PyData.shownKv kvs)
      rw [e3] at hj
      omega
    · simp only [PyData.shown, dictText]
      exact asc_app (asc_app (asc_lit (by decide)) (asc_join (asc_lit (by decide)) i3)) (asc_lit (by decide))
theorem texts_facts {B : Nat} (hB : B < 2 ^ 44) : ∀ ds : List PyData, okDs B ds → PyData.showableAll ds = true ∧ ((ds.map PyData.shown).map fun t => t.length + 2).sum ≤ wts ds ∧ ∀ t ∈ ds.map PyData.shown, asc t
  | [], _ => by simp [PyData.showableAll, wts]
  | d :: ds, h => by
    simp only [okDs] at h
    obtain ⟨i1, i2, i3⟩ := text_facts hB d h.1
    obtain ⟨j1, j2, j3⟩ := texts_facts hB ds h.2
    refine ⟨by simp only [PyData.showableAll, i1, j1]; rfl, ?_, ?_⟩
    · simp only [List.map_cons, List.sum_cons, wts]
      omega
    · intro t ht
      rcases List.mem_cons.mp ht with rfl | ht
      · exact i3
      · exact j3 t ht
theorem textk_facts {B : Nat} (hB : B < 2 ^ 44) : ∀ kvs : List (PyData × PyData), okK B kvs → PyData.showableKv kvs = true ∧ ((PyData.shownKv kvs).map fun t => t.length + 2).sum ≤ wtk kvs ∧ ∀ t ∈ PyData.shownKv kvs, asc t
  | [], _ => by simp [PyData.showableKv, PyData.shownKv, wtk]
  | (a, b) :: r, h => by
    simp only [okK] at h
    obtain ⟨i1, i2, i3⟩ := text_facts hB a h.1
    obtain ⟨j1, j2, j3⟩ := text_facts hB b h.2.1
    obtain ⟨k1, k2, k3⟩ := textk_facts hB r h.2.2
    have e2 : (Str.ofString ": ").length = 2 := by decide +kernel
    refine ⟨by simp only [PyData.showableKv, i1, j1, k1]; rfl, ?_, ?_⟩
    · simp only [PyData.shownKv, List.map_cons, List.sum_cons, wtk, Str.length_append]
      omega
    · intro t ht
      simp only [PyData.shownKv] at ht
      rcases List.mem_cons.mp ht with rfl | ht
      · exact asc_app (asc_app i3 (asc_lit (by decide))) j3
      · exact k3 t ht
end
theorem shows_of {B W D : Nat} {d : PyData} (hB : B < 2 ^ 44) (ok : okD B d) (hw : wt d ≤ W) (hd : d.depth ≤ D) (hW : W ≤ 10000000) (hD : D ≤ 64) : showsY d := by
  obtain ⟨i1, i2, _⟩ := text_facts hB d ok
  exact ⟨i1, by omega, by omega⟩
mutual
theorem ok_up {B C : Nat} (h : B ≤ C) : ∀ d : PyData, okD B d → okD C d
  | .none, _ => by simp [okD]
  | .bool b, _ => by simp [okD]
  | .int i, k => by simp only [okD] at k ⊢; omega
  | .str s, k => by simp only [okD] at k ⊢; exact k
  | .list ds, k => by simp only [okD] at k ⊢; exact oks_up h ds k
  | .tuple ds, k => by simp only [okD] at k ⊢; exact oks_up h ds k
  | .dict kvs, k => by simp only [okD] at k ⊢; exact okk_up h kvs k
theorem oks_up {B C : Nat} (h : B ≤ C) : ∀ ds : List PyData, okDs B ds → okDs C ds
  | [], _ => by simp [okDs]
  | d :: ds, k => by simp only [okDs] at k ⊢; exact ⟨ok_up h d k.1, oks_up h ds k.2⟩
theorem okk_up {B C : Nat} (h : B ≤ C) : ∀ kvs : List (PyData × PyData), okK B kvs → okK C kvs
  | [], _ => by simp [okK]
  | (a, b) :: r, k => by simp only [okK] at k ⊢; exact ⟨ok_up h a k.1, ok_up h b k.2.1, okk_up h r k.2.2⟩
end
mutual
theorem nodes_wt : ∀ d : PyData, 10 * nodes d ≤ wt d
  | .none => by simp [nodes, wt]
  | .bool b => by simp [nodes, wt]
  | .int i => by simp [nodes, wt]
  | .str s => by simp only [nodes, wt]; omega
  | .list ds => by have := nodess_wt ds; simp only [nodes, wt]; omega
  | .tuple ds => by have := nodess_wt ds; simp only [nodes, wt]; omega
  | .dict kvs => by simp only [nodes, wt]; omega
theorem nodess_wt : ∀ ds : List PyData, 10 * nodess ds ≤ wts ds
  | [] => by simp [nodess, wts]
  | d :: ds => by have := nodes_wt d; have := nodess_wt ds; simp only [nodess, wts]; omega
end
mutual
theorem shorts_wt {W : Nat} (hW : W ≤ 10000000) : ∀ d : PyData, wt d ≤ W → shorts d
  | .none, _ => by simp [shorts]
  | .bool b, _ => by simp [shorts]
  | .int i, _ => by simp [shorts]
  | .str s, h => by simp only [wt] at h; simp only [shorts]; omega
  | .list ds, h => by simp only [wt] at h; simp only [shorts]; exact shortss_wt hW ds (by omega)
  | .tuple ds, h => by simp only [wt] at h; simp only [shorts]; exact shortss_wt hW ds (by omega)
  | .dict kvs, _ => by simp [shorts]
theorem shortss_wt {W : Nat} (hW : W ≤ 10000000) : ∀ ds : List PyData, wts ds ≤ W → shortss ds
  | [], _ => by simp [shortss]
  | d :: ds, h => by simp only [wts] at h; simp only [shortss]; exact ⟨shorts_wt hW d (by omega), shortss_wt hW ds (by omega)⟩
end
theorem len_wts : ∀ ds : List PyData, 10 * ds.length ≤ wts ds
  | [] => by simp
  | d :: ds => by
    have := len_wts ds
    have := nodes_wt d
    have : 1 ≤ nodes d := by cases d <;> simp [nodes]
    simp only [List.length_cons, wts]
    omega
end NL

/-! some datum: a value of which it is known how much it weighs, how deep it is, what signs and numbers it has; terms that make such ones while a hand draws -/
namespace NL
open PySem PySem.Spec PyProof.Rows L2 Evl
def aside (H : Hp) (S : List Addr) : Hp := fun a => if a ∈ S then none else H a
theorem aside_at {H : Hp} {S : List Addr} {a : Addr} (h : a ∉ S) : aside H S a = H a := if_neg h
theorem aside_in {H : Hp} {S : List Addr} {a : Addr} (h : a ∈ S) : aside H S a = none := if_pos h
theorem aside_sub (H : Hp) (S : List Addr) : Ex (aside H S) H := fun a o e => by
  by_cases h : a ∈ S
  · rw [aside_in h] at e
    cases e
  · rw [aside_at h] at e
    exact e
theorem aside_ex {H H' : Hp} {S : List Addr} (k : ∀ a o, a ∉ S → H a = some o → H' a = some o) : Ex (aside H S) (aside H' S) := fun a o e => by
  by_cases h : a ∈ S
  · rw [aside_in h] at e
    cases e
  · rw [aside_at h] at e ⊢
    exact k a o h e
theorem aside_kp {H H' : Hp} {S : List Addr} {h l : Addr} (h1 : h ∈ S) (h2 : l ∈ S) (k : Kp h l H H') : Ex (aside H S) (aside H' S) := aside_ex fun a o hn e => k a o (fun z => hn (z ▸ h1)) (fun z => hn (z ▸ h2)) e
theorem aside_e {H H' : Hp} {S : List Addr} (k : Ex H H') : Ex (aside H S) (aside H' S) := aside_ex fun a o _ e => k a o e
theorem aside_less {H : Hp} {S : List Addr} {p : Addr} : Ex (aside H (p :: S)) (aside H S) := fun a o e => by
  by_cases h : a ∈ p :: S
  · rw [aside_in h] at e
    cases e
  · rw [aside_at h] at e
    rw [aside_at (fun z => h (List.mem_cons_of_mem _ z))]
    exact e
theorem aside_more {H H' : Hp} {S : List Addr} {p : Addr} (n : H p = none) (k : Ex H H') : Ex (aside H S) (aside H' (p :: S)) := fun a o e => by
  by_cases h : a ∈ S
  · rw [aside_in h] at e
    cases e
  · rw [aside_at h] at e
    rw [aside_at (fun z => by
      rcases List.mem_cons.mp z with z | z
      · subst z
        rw [n] at e
        cases e
      · exact h z)]
    exact k _ _ e
/-! ### a datum, and several -/
def G (K : PySem.W.Frag) (H : Hp) (v : V) (W N D B : Nat) : Prop := ∃ d, Dy K H v d ∧ wt d ≤ W ∧ nodes d ≤ N ∧ d.depth ≤ D ∧ okD B d
def GL (K : PySem.W.Frag) (H : Hp) (xs : List V) (W N D B : Nat) : Prop := ∃ ds, DyAll K H xs ds ∧ wts ds ≤ W ∧ nodess ds ≤ N ∧ PyData.depthAll ds ≤ D ∧ okDs B ds
section
variable {K : PySem.W.Frag} {H H' : Hp} {v : V} {xs ys : List V} {W N D B W' N' D' B' : Nat}
theorem G.mono (g : G K H v W N D B) (e : Ex H H') : G K H' v W N D B := by
  obtain ⟨d, h, r⟩ := g
  exact ⟨d, dy_mono e h, r⟩
theorem G.up (g : G K H v W N D B) (hW : W ≤ W') (hN : N ≤ N') (hD : D ≤ D') (hB : B ≤ B') : G K H v W' N' D' B' := by
  obtain ⟨d, h, h1, hn, h2, h3⟩ := g
  exact ⟨d, h, by omega, by omega, by omega, ok_up hB d h3⟩
theorem GL.mono (g : GL K H xs W N D B) (e : Ex H H') : GL K H' xs W N D B := by
  obtain ⟨d, h, r⟩ := g
  exact ⟨d, dya_mono e h, r⟩
theorem GL.up (g : GL K H xs W N D B) (hW : W ≤ W') (hN : N ≤ N') (hD : D ≤ D') (hB : B ≤ B') : GL K H xs W' N' D' B' := by
  obtain ⟨d, h, h1, hn, h2, h3⟩ := g
  exact ⟨d, h, by omega, by omega, by omega, oks_up hB d h3⟩
theorem GL.nil : GL K H [] W N D B := ⟨[], .nil, by simp [wts], by simp [nodess], by simp [PyData.depthAll], by simp [okDs]⟩
theorem GL.cons (a : G K H v W N D B) (b : GL K H xs W' N' D B) : GL K H (v :: xs) (W + W') (N + N') D B := by
  obtain ⟨d, h, h1, hn, h2, h3⟩ := a
  obtain ⟨ds, k, k1, kn, k2, k3⟩ := b
  exact ⟨d :: ds, .cons h k, by simp only [wts]; omega, by simp only [nodess]; omega, by simp only [PyData.depthAll]; omega, by simp only [okDs]; exact ⟨h3, k3⟩⟩
theorem dya_app : ∀ {xs ys : List V} {ds es : List PyData}, DyAll K H xs ds → DyAll K H ys es → DyAll K H (xs ++ ys) (ds ++ es)
  | _, _, _, _, .nil, h => h
  | _, _, _, _, .cons a b, h => .cons a (dya_app b h)
theorem wts_app : ∀ (ds es : List PyData), wts (ds ++ es) = wts ds + wts es
  | [], es => by simp [wts]
  | d :: ds, es => by simp only [List.cons_append, wts, wts_app ds es]; omega
theorem nds_app : ∀ (ds es : List PyData), nodess (ds ++ es) = nodess ds + nodess es
  | [], es => by simp [nodess]
  | d :: ds, es => by simp only [List.cons_append, nodess, nds_app ds es]; omega
theorem dep_app : ∀ (ds es : List PyData), PyData.depthAll (ds ++ es) = max (PyData.depthAll ds) (PyData.depthAll es)
  | [], es => by simp [PyData.depthAll]
  | d :: ds, es => by simp only [List.cons_append, PyData.depthAll, dep_app ds es]; omega
theorem okDs_app : ∀ (ds es : List PyData), okDs B (ds ++ es) ↔ okDs B ds ∧ okDs B es
  | [], es => by simp [okDs]
  | d :: ds, es => by simp only [List.cons_append, okDs, okDs_app ds es, and_assoc]
theorem GL.app (a : GL K H xs W N D B) (b : GL K H ys W' N' D B) : GL K H (xs ++ ys) (W + W') (N + N') D B := by
  obtain ⟨ds, h, h1, hn, h2, h3⟩ := a
  obtain ⟨es, k, k1, kn, k2, k3⟩ := b
  exact ⟨ds ++ es, dya_app h k, by rw [wts_app]; omega, by rw [nds_app]; omega, by rw [dep_app]; omega, (okDs_app ds es).mpr ⟨h3, k3⟩⟩
theorem dya_split : ∀ {xs ys : List V} {ds : List PyData}, DyAll K H (xs ++ ys) ds → ∃ a b, ds = a ++ b ∧ DyAll K H xs a ∧ DyAll K H ys b
  | [], ys, ds, h => ⟨[], ds, rfl, .nil, h⟩
  | x :: xs, ys, _, .cons h t => by
    obtain ⟨a, b, rfl, h1, h2⟩ := dya_split t
    exact ⟨_ :: a, b, rfl, .cons h h1, h2⟩
theorem GL.left (g : GL K H (xs ++ ys) W N D B) : GL K H xs W N D B := by
  obtain ⟨ds, h, h1, hn, h2, h3⟩ := g
  obtain ⟨a, b, rfl, k1, k2⟩ := dya_split h
  rw [wts_app] at h1
  rw [nds_app] at hn
  rw [dep_app] at h2
  exact ⟨a, k1, by omega, by omega, by omega, ((okDs_app a b).mp h3).1⟩
theorem GL.right (g : GL K H (xs ++ ys) W N D B) : GL K H ys W N D B := by
  obtain ⟨ds, h, h1, hn, h2, h3⟩ := g
  obtain ⟨a, b, rfl, k1, k2⟩ := dya_split h
  rw [wts_app] at h1
  rw [nds_app] at hn
  rw [dep_app] at h2
  exact ⟨b, k2, by omega, by omega, by omega, ((okDs_app a b).mp h3).2⟩
theorem GL.take (g : GL K H xs W N D B) (n : Nat) : GL K H (xs.take n) W N D B := GL.left (ys := xs.drop n) (by rw [List.take_append_drop]; exact g)
theorem GL.drop (g : GL K H xs W N D B) (n : Nat) : GL K H (xs.drop n) W N D B := GL.right (xs := xs.take n) (by rw [List.take_append_drop]; exact g)
theorem GL.cut (g : GL K H xs W N D B) (lo hi : Option Int) : GL K H (cutV xs lo hi) W N D B := by
  unfold cutV
  exact (g.drop _).take _
theorem GL.rev (g : GL K H xs W N D B) : GL K H xs.reverse W N D B := by
  obtain ⟨ds, h, h1, hn, h2, h3⟩ := g
  suffices h : ∀ {xs : List V} {ds : List PyData}, DyAll K H xs ds → ∃ es, DyAll K H xs.reverse es ∧ wts es = wts ds ∧ nodess es = nodess ds ∧ PyData.depthAll es = PyData.depthAll ds ∧ (okDs B ds → okDs B es) by
    obtain ⟨es, k, k1, kn, k2, k3⟩ := h ‹_›
    exact ⟨es, k, by omega, by omega, by omega, k3 h3⟩
  intro xs
  induction xs with
  | nil => intro ds h; cases h; exact ⟨[], .nil, rfl, rfl, rfl, id⟩
  | cons x xs ih =>
    intro ds h
    cases h with
    | cons a b =>
      rename_i d ds
      obtain ⟨es, k, k1, kn, k2, k3⟩ := ih b
      refine ⟨es ++ [d], by rw [List.reverse_cons]; exact dya_app k (.cons a .nil), ?_, ?_, ?_, fun o => ?_⟩
      · rw [wts_app, k1]
        simp only [wts]
        omega
      · rw [nds_app, kn]
        simp only [nodess]
        omega
      · rw [dep_app, k2]
        simp only [PyData.depthAll]
        omega
      · simp only [okDs] at o
        exact (okDs_app es [d]).mpr ⟨k3 o.2, by simp only [okDs]; exact ⟨o.1, trivial⟩⟩
theorem GL.get (g : GL K H xs W N D B) (h : v ∈ xs) : G K H v W N D B := by
  obtain ⟨a, b, rfl⟩ := List.append_of_mem h
  obtain ⟨ds, h, h1, hn, h2, h3⟩ := g.right (xs := a)
  cases h with
  | cons d r =>
    simp only [wts] at h1
    simp only [nodess] at hn
    simp only [PyData.depthAll] at h2
    simp only [okDs] at h3
    exact ⟨_, d, by omega, by omega, by omega, h3.1⟩
theorem GL.len (g : GL K H xs W N D B) : 10 * xs.length ≤ W := by
  obtain ⟨ds, h, h1, _⟩ := g
  have := len_wts ds
  have e : xs.length = ds.length := dxa_len (dya_dx h)
  omega
theorem GL.lenN (g : GL K H xs W N D B) : xs.length ≤ N := by
  obtain ⟨ds, h, _, hn, _⟩ := g
  have e : xs.length = ds.length := dxa_len (dya_dx h)
  have : ∀ ds : List PyData, ds.length ≤ nodess ds := by
    intro ds
    induction ds with
    | nil => simp
    | cons d ds ih =>
      have : 1 ≤ nodes d := by cases d <;> simp [nodes]
      simp only [List.length_cons, nodess]
      omega
  have := this ds
  omega
theorem G.tup {a : Addr} (hs : SqT K H a xs) (g : GL K H xs W N D B) : G K H (.ref a) (W + 10) (N + 1) (D + 1) B := by
  obtain ⟨ds, h, h1, hn, h2, h3⟩ := g
  exact ⟨.tuple ds, .tup hs h, by simp only [wt]; omega, by simp only [nodes]; omega, by simp only [PyData.depth]; omega, by simp only [okD]; exact h3⟩
theorem G.lst {a : Addr} (hs : H a = some (.lst xs)) (g : GL K H xs W N D B) : G K H (.ref a) (W + 10) (N + 1) (D + 1) B := by
  obtain ⟨ds, h, h1, hn, h2, h3⟩ := g
  exact ⟨.list ds, .lst hs h, by simp only [wt]; omega, by simp only [nodes]; omega, by simp only [PyData.depth]; omega, by simp only [okD]; exact h3⟩
theorem G.non : G K H .non 10 1 0 B := ⟨_, .non, by simp [wt], by simp [nodes], by simp [PyData.depth], by simp [okD]⟩
theorem G.bl (b : Bool) : G K H (.bl b) 10 1 0 B := ⟨_, .bl b, by simp [wt], by simp [nodes], by simp [PyData.depth], by simp [okD]⟩
theorem G.int {i : Int} (h : i.natAbs ≤ B) : G K H (.int i) 60 1 0 B := ⟨_, .int i, by simp [wt], by simp [nodes], by simp [PyData.depth], by simp only [okD]; exact h⟩
theorem G.str {z : Str} {n : Nat} (hn : 10 * z.length + 10 ≤ n) (h : asc z) : G K H (.str z) n 1 0 B := ⟨_, .str z, by simp only [wt]; exact hn, by simp [nodes], by simp [PyData.depth], by simp only [okD]; exact h⟩
theorem G.dct {a : Addr} (h : H a = some (.dK [])) : G K H (.ref a) 10 1 1 B := ⟨_, .dct h, by simp [wt, wtk], by simp [nodes], by simp [PyData.depth, PyData.depthKv], by simp [okD, okK]⟩
theorem G.dc1 {a : Addr} {z : Str} (h : H a = some (.dK [(Sum.inr z, v)])) (az : asc z) (g : G K H v W N D B) : G K H (.ref a) (10 * z.length + 10 + W + 10) (N + 1) (D + 1) B := by
  obtain ⟨d, hd, h1, hn, h2, h3⟩ := g
  refine ⟨_, .dc1 h hd, by simp only [wt, wtk]; omega, by simp only [nodes]; omega, by simp only [PyData.depth, PyData.depthKv]; omega, by simp only [okD, okK]; exact ⟨az, h3, trivial⟩⟩
end
/-! ### terms that give some datum while a hand draws -/
theorem sqt_kp {K : PySem.W.Frag} {H H' : Hp} {h l p : Addr} {xs : List V} (k : Kp h l H H') (s : SqT K (aside H [h, l]) p xs) : SqT K (aside H' [h, l]) p xs := ex_t (aside_kp (by simp) (by simp) k) s
section
variable {K : PySem.W.Frag} {h l : Addr}
def EG (K : PySem.W.Frag) (h l : Addr) (W N D B : Nat) (te : TE) (σ : L2.St) (H : Hp) : Prop := ∀ H1, Kp h l H H1 → Hand H1 h l → ∀ Q : VK, (∀ v H2, Kp h l H1 H2 → Hand H2 h l → G K (aside H2 [h, l]) v W N D B → Q v H2) → te σ H1 Q
def AG (K : PySem.W.Frag) (h l : Addr) (n W N D B : Nat) (ta : TA) (σ : L2.St) (H : Hp) : Prop := ∀ H1, Kp h l H H1 → Hand H1 h l → ∀ Q : List V → Hp → Prop, (∀ vs H2, Kp h l H1 H2 → Hand H2 h l → vs.length = n → (∀ v ∈ vs, G K (aside H2 [h, l]) v W N D B) → Q vs H2) → ta σ H1 Q
def GT (K : PySem.W.Frag) (h l : Addr) (W N D B : Nat) (te : TE) (σ : L2.St) (H : Hp) : Prop := ∀ H1, Kp h l H H1 → Hand H1 h l → ∀ Q : VK, (∀ p xs H2, Kp h l H1 H2 → Hand H2 h l → SqT K (aside H2 [h, l]) p xs → GL K (aside H2 [h, l]) xs W N D B → Q (.ref p) H2) → te σ H1 Q
/-- to a new list of such ones -/
def NG (K : PySem.W.Frag) (h l : Addr) (n W N D B : Nat) (te : TE) (σ : L2.St) (H : Hp) : Prop := ∀ H1, Kp h l H H1 → Hand H1 h l → ∀ Q : VK, (∀ p vs H2, Kp h l H1 H2 → Hand H2 h l → p ≠ h → p ≠ l → H2 p = some (.lst vs) → vs.length = n → (∀ v ∈ vs, G K (aside H2 [h, l]) v W N D B) → Q (.ref p) H2) → te σ H1 Q
/-- to this value, whatever is drawn -/
def EK (h l : Addr) (v : V) (te : TE) (σ : L2.St) (H : Hp) : Prop := ∀ H1, Kp h l H H1 → Hand H1 h l → ∀ Q : VK, (∀ H2, Kp h l H1 H2 → Hand H2 h l → Q v H2) → te σ H1 Q
variable {σ : L2.St} {H : Hp} {te tb : TE} {ta : TA} {W N D B W' N' D' B' n m : Nat}
theorem g_kp {H1 H2 : Hp} {v : V} (g : G K (aside H1 [h, l]) v W N D B) (k : Kp h l H1 H2) : G K (aside H2 [h, l]) v W N D B := g.mono (aside_kp (by simp) (by simp) k)
theorem gl_kp {H1 H2 : Hp} {xs : List V} (g : GL K (aside H1 [h, l]) xs W N D B) (k : Kp h l H1 H2) : GL K (aside H2 [h, l]) xs W N D B := g.mono (aside_kp (by simp) (by simp) k)
theorem off_hl {p : Addr} (h1 : p ≠ h) (h2 : p ≠ l) : p ∉ [h, l] := by
  simp only [List.mem_cons, List.not_mem_nil, or_false, not_or]
  exact ⟨h1, h2⟩
theorem EG.up (g : EG K h l W N D B te σ H) (hW : W ≤ W') (hN : N ≤ N') (hD : D ≤ D') (hB : B ≤ B') : EG K h l W' N' D' B' te σ H := fun H1 k A Q q => g H1 k A Q fun v H2 k2 A2 g2 => q v H2 k2 A2 (g2.up hW hN hD hB)
theorem GT.up (g : GT K h l W N D B te σ H) (hW : W ≤ W') (hN : N ≤ N') (hD : D ≤ D') (hB : B ≤ B') : GT K h l W' N' D' B' te σ H := fun H1 k A Q q => g H1 k A Q fun p xs H2 k2 A2 s g2 => q p xs H2 k2 A2 s (g2.up hW hN hD hB)
theorem ek_c {v : V} : EK h l v (tC v) σ H := fun H1 _ A Q q => q H1 (Kp.refl h l H1) A
theorem ek_var {i : Nat} {v : V} (e : σ[i]? = some (some v)) : EK h l v (tVar i) σ H := fun H1 _ A Q q => ⟨v, e, q H1 (Kp.refl h l H1) A⟩
theorem ek_I0 {g : Int → Int → V} {i j : Int} (ha : EK h l (.int i) te σ H) (hb : EK h l (.int j) tb σ H) : EK h l (g i j) (tOp (rI0 g) te tb) σ H := fun H1 k A Q q =>
  ha H1 k A _ fun H2 k2 A2 => hb H2 (k.trans k2) A2 _ fun H3 k3 A3 => ⟨i, j, rfl, rfl, q H3 (k2.trans k3) A3⟩
theorem eg_ek {v : V} (e : EK h l v te σ H) (g : ∀ H, G K H v W N D B) : EG K h l W N D B te σ H := fun H1 k A Q q => e H1 k A Q fun H2 k2 A2 => q v H2 k2 A2 (g _)
theorem eg_c {v : V} (g : ∀ H, G K H v W N D B) : EG K h l W N D B (tC v) σ H := eg_ek ek_c g
theorem eg_var {i : Nat} {v : V} (e : σ[i]? = some (some v)) (g : G K (aside H [h, l]) v W N D B) : EG K h l W N D B (tVar i) σ H := fun H1 k A Q q => ⟨v, e, q v H1 (Kp.refl h l H1) A (g_kp g k)⟩
theorem ag_nil : AG K h l 0 W N D B tNil σ H := fun H1 k A Q q => q [] H1 (Kp.refl h l H1) A rfl (fun v z => by cases z)
theorem ag_cons (g : EG K h l W N D B te σ H) (r : AG K h l n W N D B ta σ H) : AG K h l (n + 1) W N D B (tCons te ta) σ H := fun H1 k A Q q =>
  g H1 k A _ fun v H2 k2 A2 g2 => r H2 (k.trans k2) A2 _ fun vs H3 k3 A3 hl hv => q (v :: vs) H3 (k2.trans k3) A3 (by rw [List.length_cons, hl]) fun u hu => by
    rcases List.mem_cons.mp hu with rfl | hu
    · exact g_kp g2 k3
    · exact hv u hu
theorem gl_all {H : Hp} : ∀ {vs : List V}, (∀ v ∈ vs, G K H v W N D B) → GL K H vs (vs.length * W) (vs.length * N) D B
  | [], _ => GL.nil
  | v :: vs, g => by
    have := GL.cons (g v (List.mem_cons_self ..)) (gl_all (vs := vs) fun u hu => g u (List.mem_cons_of_mem _ hu))
    refine this.up ?_ ?_ (Nat.le_refl _) (Nat.le_refl _)
    · rw [List.length_cons, Nat.succ_mul]
      omega
    · rw [List.length_cons, Nat.succ_mul]
      omega
theorem new_kp {H1 : Hp} {p : Addr} {o : HO} (n : H1 p = none) : Kp h l H1 (upd H1 p o) := Kp.ex (Ex.new n)
theorem tg_new (g : AG K h l n W N D B ta σ H) (hn : n ≤ 1000) : GT K h l (n * W) (n * N) D B (tTup ta) σ H := fun H1 k A Q q =>
  g H1 k A _ fun vs H2 k2 A2 hl hv => ⟨sz_of (by omega), fun p hp => by
    obtain ⟨n1, n2⟩ := A2.fresh hp
    refine q p vs _ (k2.trans (new_kp hp)) (A2.new hp) (st_of (by rw [aside_at (off_hl n1 n2)]; exact upd_same)) ?_
    rw [← hl]
    exact gl_kp (gl_all hv) (new_kp hp)⟩
theorem eg_tg (g : GT K h l W N D B te σ H) : EG K h l (W + 10) (N + 1) (D + 1) B te σ H := fun H1 k A Q q => g H1 k A Q fun p xs H2 k2 A2 s g2 => q _ H2 k2 A2 (G.tup s g2)
theorem tg_var {i : Nat} {p : Addr} {xs : List V} (e : σ[i]? = some (some (.ref p))) (s : SqT K (aside H [h, l]) p xs) (g : GL K (aside H [h, l]) xs W N D B) : GT K h l W N D B (tVar i) σ H := fun H1 k A Q q => ⟨_, e, q p xs H1 (Kp.refl h l H1) A (sqt_kp k s) (gl_kp g k)⟩
theorem tg_cat (ga : GT K h l W N D B te σ H) (gb : GT K h l W' N' D B tb σ H) (hz : W + W' ≤ 1000000 ∨ N + N' ≤ 100000) : GT K h l (W + W') (N + N') D B (tOp (rCatA K) te tb) σ H := fun H1 k A Q q =>
  ga H1 k A _ fun p xs H2 k2 A2 s2 g2 => gb H2 (k.trans k2) A2 _ fun p' ys H3 k3 A3 s3 g3 => by
    have s2' := sqt_kp k3 s2
    have g2' := gl_kp g2 k3
    have l2 := g2'.len
    have l3 := g3.len
    have m2 := g2'.lenN
    have m3 := g3.lenN
    refine ⟨p, p', xs, ys, rfl, rfl, ex_t (aside_sub _ _) s2', ex_t (aside_sub _ _) s3, sz_of (by omega), fun z => ?_, fun _ z => ?_, fun _ _ r hr => ?_⟩
    · exact q p' ys H3 (k2.trans k3) A3 s3 (g3.up (by omega) (by omega) (Nat.le_refl _) (Nat.le_refl _))
    · exact q p xs H3 (k2.trans k3) A3 s2' (g2'.up (by omega) (by omega) (Nat.le_refl _) (Nat.le_refl _))
    · obtain ⟨n1, n2⟩ := A3.fresh hr
      exact q r _ _ ((k2.trans k3).trans (new_kp hr)) (A3.new hr) (st_of (by rw [aside_at (off_hl n1 n2)]; exact upd_same)) (gl_kp (g2'.app g3) (new_kp hr))
/-- a part of a slice -/
def PK (h l : Addr) (o : Option Int) (to : TO) (σ : L2.St) (H : Hp) : Prop := ∀ H1, Kp h l H H1 → Hand H1 h l → ∀ Q : Option Int → Hp → Prop, (∀ H2, Kp h l H1 H2 → Hand H2 h l → Q o H2) → to σ H1 Q
theorem pk_no : PK h l none tNoPart σ H := fun H1 _ A Q q => q H1 (Kp.refl h l H1) A
theorem pk_so {i : Int} (e : EK h l (.int i) te σ H) : PK h l (some i) (tPart te) σ H := fun H1 k A Q q => e H1 k A _ fun H2 k2 A2 => ⟨i, rfl, q H2 k2 A2⟩
theorem tg_sl {lo hi : Option Int} {tl th : TO} (g : GT K h l W N D B te σ H) (hl : PK h l lo tl σ H) (hh : PK h l hi th σ H) : GT K h l W N D B (tSl (rSlA K) te tl th) σ H := fun H1 k A Q q =>
  g H1 k A _ fun p xs H2 k2 A2 s2 g2 => hl H2 (k.trans k2) A2 _ fun H3 k3 A3 => hh H3 ((k.trans k2).trans k3) A3 _ fun H4 k4 A4 => by
    have s4 := sqt_kp (k3.trans k4) s2
    have g4 := gl_kp g2 (k3.trans k4)
    refine ⟨p, xs, rfl, ex_t (aside_sub _ _) s4, fun _ => q p xs H4 ((k2.trans k3).trans k4) A4 s4 g4, fun _ r hr => ?_⟩
    obtain ⟨n1, n2⟩ := A4.fresh hr
    exact q r _ _ (((k2.trans k3).trans k4).trans (new_kp hr)) (A4.new hr) (st_of (by rw [aside_at (off_hl n1 n2)]; exact upd_same)) (gl_kp (g4.cut lo hi) (new_kp hr))
theorem tg_rev (g : GT K h l W N D B te σ H) : GT K h l W N D B (tRevT K te) σ H := fun H1 k A Q q =>
  g H1 k A _ fun p xs H2 k2 A2 s2 g2 => ⟨p, xs, rfl, ex_t (aside_sub _ _) s2, fun r hr => by
    obtain ⟨n1, n2⟩ := A2.fresh hr
    exact q r _ _ (k2.trans (new_kp hr)) (A2.new hr) (st_of (by rw [aside_at (off_hl n1 n2)]; exact upd_same)) (gl_kp g2.rev (new_kp hr))⟩
def rListT (K : PySem.W.Frag) : List V → Hp → VK → Prop := fun xs H Q => ∃ p ys, xs = [.ref p] ∧ (SqL K H p ys ∨ SqT K H p ys) ∧ ∀ l, H l = none → Q (.ref l) (upd H l (.lst ys))
theorem listTK {X : Cx} (h : X.K = K) : CallR X (.type "list") (rListT K) := by subst h; exact call_list_of
theorem eg_listT (g : GT K h l W N D B te σ H) : EG K h l (W + 10) (N + 1) (D + 1) B (tCB (rListT K) (tCons te tNil)) σ H := fun H1 k A Q q =>
  g H1 k A _ fun p xs H2 k2 A2 s2 g2 => ⟨p, xs, rfl, Or.inr (ex_t (aside_sub _ _) s2), fun r hr => by
    obtain ⟨n1, n2⟩ := A2.fresh hr
    exact q _ _ (k2.trans (new_kp hr)) (A2.new hr) (G.lst (by rw [aside_at (off_hl n1 n2)]; exact upd_same) (gl_kp g2 (new_kp hr)))⟩
theorem eg_lst (g : AG K h l n W N D B ta σ H) (hn : n ≤ 1000) : EG K h l (n * W + 10) (n * N + 1) (D + 1) B (tLst ta) σ H := fun H1 k A Q q =>
  g H1 k A _ fun vs H2 k2 A2 hl hv => ⟨sz_of (by omega), fun p hp => by
    obtain ⟨n1, n2⟩ := A2.fresh hp
    refine q _ _ (k2.trans (new_kp hp)) (A2.new hp) (G.lst (by rw [aside_at (off_hl n1 n2)]; exact upd_same) ?_)
    rw [← hl]
    exact gl_kp (gl_all hv) (new_kp hp)⟩
theorem eg_dnew : EG K h l 10 1 1 B tDNewK σ H := fun H1 k A Q q p hp => by
  obtain ⟨n1, n2⟩ := A.fresh hp
  exact q _ _ (new_kp hp) (A.new hp) (G.dct (by rw [aside_at (off_hl n1 n2)]; exact upd_same))
theorem ng_lst (g : AG K h l n W N D B ta σ H) (hn : n ≤ 1000) : NG K h l n W N D B (tLst ta) σ H := fun H1 k A Q q =>
  g H1 k A _ fun vs H2 k2 A2 hl hv => ⟨sz_of (by omega), fun p hp => by
    obtain ⟨n1, n2⟩ := A2.fresh hp
    exact q p vs _ (k2.trans (new_kp hp)) (A2.new hp) n1 n2 upd_same hl fun v z => g_kp (hv v z) (new_kp hp)⟩
theorem ng_var {i : Nat} {p : Addr} {vs : List V} (e : σ[i]? = some (some (.ref p))) (n1 : p ≠ h) (n2 : p ≠ l) (hp : H p = some (.lst vs)) (hl : vs.length = n) (g : ∀ v ∈ vs, G K (aside H [h, l]) v W N D B) : NG K h l n W N D B (tVar i) σ H := fun H1 k A Q q =>
  ⟨_, e, q p vs H1 (Kp.refl h l H1) A n1 n2 (k _ _ n1 n2 hp) hl fun v z => g_kp (g v z) k⟩
theorem ng_cat (ga : NG K h l n W N D B te σ H) (gb : NG K h l m W N D B tb σ H) (hz : n + m ≤ 1000) : NG K h l (n + m) W N D B (tOp rCat te tb) σ H := fun H1 k A Q q =>
  ga H1 k A _ fun p vs H2 k2 A2 n1 n2 h2 l2 g2 => gb H2 (k.trans k2) A2 _ fun p' us H3 k3 A3 m1 m2 h3 l3 g3 => ⟨p, p', vs, us, rfl, rfl, k3 _ _ n1 n2 h2, h3, sz_of (by omega), fun r hr => by
    obtain ⟨o1, o2⟩ := A3.fresh hr
    refine q r _ _ ((k2.trans k3).trans (new_kp hr)) (A3.new hr) o1 o2 upd_same (by rw [List.length_append]; omega) fun v z => ?_
    rcases List.mem_append.mp z with z | z
    · exact g_kp (g_kp (g2 v z) k3) (new_kp hr)
    · exact g_kp (g3 v z) (new_kp hr)⟩
theorem eg_ix {i : Nat} {r : Int} (g : NG K h l n W N D B te σ H) (e : σ[i]? = some (some (.int r))) (r0 : 0 ≤ r) (r1 : r < n) : EG K h l W N D B (tOp (rIxL K) te (tVar i)) σ H := fun H1 k A Q q =>
  g H1 k A _ fun p vs H2 k2 A2 n1 n2 h2 l2 g2 => by
    have hi : r.toNat < vs.length := by omega
    refine ⟨.int r, e, p, vs, r, vs[r.toNat], rfl, rfl, sq_of h2, ?_, q _ H2 k2 A2 (g2 _ (List.getElem_mem hi))⟩
    unfold atI ixN
    rw [if_pos r0, if_pos (by omega)]
    simp [hi]
/-- one text behind another -/
theorem eg_cats {a b : Str} (ha : EK h l (.str a) te σ H) (hb : EK h l (.str b) tb σ H) (hz : a.length + b.length ≤ 1000000) (aa : asc a) (ab : asc b) (hW : 10 * (a.length + b.length) + 10 ≤ W) : EG K h l W 1 0 B (tOp (fun x y H Q => ∃ i j, x = V.str i ∧ y = V.str j ∧ i.length + j.length ≤ sizeLine ∧ Q (.str (i ++ j)) H) te tb) σ H := fun H1 k A Q q =>
  ha H1 k A _ fun H2 k2 A2 => hb H2 (k.trans k2) A2 _ fun H3 k3 A3 => ⟨a, b, rfl, rfl, Nat.le_trans hz (by decide), q _ H3 (k2.trans k3) A3 (G.str (by rw [Str.length_append]; exact hW) (asc_app aa ab))⟩
end
end NL

/-! truths among numbers: True + 1, True - 1, 0 - True -/
namespace NL
open PySem PySem.Spec PyProof.Rows L2 Evl
def numV : V → Option Int
  | .int i => some i
  | .bl b => some (if b = true then 1 else 0)
  | _ => none
section
variable {P : Program} {w : World} {A : Around} {E : Value → Shared → Prop} {s : Shared} {p : Bool} {i : Int} {u : Tok} {Q : Value → Shared → Prop}
theorem made_add (p : Bool) (i : Int) (u : Tok) : Gives (Builtin.«int.__add__» ⟨[.bool p, .int i u], []⟩) (.int ((if p = true then (1 : Int) else 0) + i)) := by
  cases p <;> exact .of_eq rfl
theorem made_sub (p : Bool) (i : Int) (u : Tok) : Gives (Builtin.«int.__sub__» ⟨[.bool p, .int i u], []⟩) (.int ((if p = true then (1 : Int) else 0) - i)) := by
  cases p <;> exact .of_eq rfl
theorem made_bus (p : Bool) (i : Int) (u : Tok) : Gives (Builtin.«int.__sub__» ⟨[.int i u, .bool p], []⟩) (.int (i - (if p = true then (1 : Int) else 0))) := by
  cases p <;> exact .of_eq rfl
theorem add_bi (q : Q (.int ((if p = true then (1 : Int) else 0) + i) s.toks) { s with toks := s.toks + 1 }) : wpAny (model P w) A (binaryOp .Add (.bool p) (.int i u)) Q E s :=
  binaryOp_left_gives (op := .Add) (T := "bool") (U := "int") (by decide) (PySem.typeIs_bool s p) (fun s' => typeIs_int s' i u) PySem.F.fills_bool_add PySem.F.fills_int_add PySem.F.sub_int_bool PySem.F.slot_bool_add PySem.F.slot_int_radd PySem.F.entry_int_add (PySem.F.args_int_add_2 _ _) (made_add p i u) trivial q
theorem sub_bi (q : Q (.int ((if p = true then (1 : Int) else 0) - i) s.toks) { s with toks := s.toks + 1 }) : wpAny (model P w) A (binaryOp .Sub (.bool p) (.int i u)) Q E s :=
  binaryOp_left_gives (op := .Sub) (T := "bool") (U := "int") (by decide) (PySem.typeIs_bool s p) (fun s' => typeIs_int s' i u) PySem.F.fills_bool_sub PySem.F.fills_int_sub PySem.F.sub_int_bool PySem.F.slot_bool_sub PySem.F.slot_int_rsub PySem.F.entry_int_sub (PySem.F.args_int_sub_2 _ _) (made_sub p i u) trivial q
theorem refl_sub : reflectedDiffers (.type "int") (.type "bool") "sub" = pure false := by
  unfold reflectedDiffers
  change (typeLookup (.type "bool") (dunderR "sub") >>= fun rb => typeLookup (.type "int") (dunderR "sub") >>= fun ra => pure (rb.isSome && rb != ra)) = _
  rw [typeLookup_type, typeLookup_type, builtinLookup_eq_fast]
  kernel_rfl
theorem sub_ib (q : Q (.int (i - (if p = true then (1 : Int) else 0)) s.toks) { s with toks := s.toks + 1 }) : wpAny (model P w) A (binaryOp .Sub (.int i u) (.bool p)) Q E s :=
  binaryOp_sub_gives (op := .Sub) (T := "int") (U := "bool") (by decide) (typeIs_int s i u) (PySem.typeIs_bool s p) PySem.F.fills_int_sub PySem.F.fills_bool_sub isSubtype_bool_int refl_sub PySem.F.slot_int_sub PySem.F.entry_int_sub (PySem.F.args_int_sub_2 _ _) (made_bus p i u) trivial q
end
def rAddW : R2 := fun x y H Q => ∃ i j, numV x = some i ∧ y = .int j ∧ Q (.int (i + j)) H
def rSubW : R2 := fun x y H Q => ∃ i j, ((numV x = some i ∧ y = .int j) ∨ (x = .int i ∧ numV y = some j)) ∧ Q (.int (i - j)) H
section
variable {X : Cx}
theorem num_rel {x : V} {v : Value} {i : Int} (h : numV x = some i) (r : RelV x v) : (∃ t, x = .int i ∧ v = .int i t) ∨ ∃ b : Bool, x = .bl b ∧ v = .bool b ∧ i = if b = true then 1 else 0 := by
  cases x with
  | int j => cases h; obtain ⟨t, rfl⟩ := r; exact Or.inl ⟨t, rfl, rfl⟩
  | bl b => cases h; cases r; exact Or.inr ⟨b, rfl, rfl, rfl⟩
  | _ => cases h
theorem op_addW : OpR X (binaryOp .Add) rAddW := by
  intro pins s σ H x y v u Q I rx ry told
  obtain ⟨i, j, hx, rfl, q⟩ := told
  obtain ⟨t, rfl⟩ := ry
  rcases num_rel hx rx with ⟨t', rfl, rfl⟩ | ⟨b, rfl, rfl, rfl⟩
  · exact PySem.P.add_int ⟨.int (i + j), H, I.tok _, ⟨_, rfl⟩, q⟩
  · exact add_bi ⟨.int _, H, I.tok _, ⟨_, rfl⟩, q⟩
theorem op_subW : OpR X (binaryOp .Sub) rSubW := by
  intro pins s σ H x y v u Q I rx ry told
  obtain ⟨i, j, ⟨hx, rfl⟩ | ⟨rfl, hy⟩, q⟩ := told
  · obtain ⟨t, rfl⟩ := ry
    rcases num_rel hx rx with ⟨t', rfl, rfl⟩ | ⟨b, rfl, rfl, rfl⟩
    · exact PySem.P.sub_int ⟨.int (i - j), H, I.tok _, ⟨_, rfl⟩, q⟩
    · exact sub_bi ⟨.int _, H, I.tok _, ⟨_, rfl⟩, q⟩
  · obtain ⟨t, rfl⟩ := rx
    rcases num_rel hy ry with ⟨t', rfl, rfl⟩ | ⟨b, rfl, rfl, rfl⟩
    · exact PySem.P.sub_int ⟨.int (i - j), H, I.tok _, ⟨_, rfl⟩, q⟩
    · exact sub_ib ⟨.int _, H, I.tok _, ⟨_, rfl⟩, q⟩
end
/-! ### steps with tuples, in the heap beside the hand -/
section
variable {K : PySem.W.Frag} {h l a b : Addr} {xs ys : List V} {H : Hp} {Q : VK}
theorem cat_step (A : Hand H h l) (sa : SqT K (aside H [h, l]) a xs) (sb : SqT K (aside H [h, l]) b ys) (hz : xs.length + ys.length ≤ 100000) (q : ∀ r H', Ex H H' → SqT K (aside H' [h, l]) r (xs ++ ys) → Q (.ref r) H') : rCatA K (.ref a) (.ref b) H Q := by
  refine ⟨a, b, xs, ys, rfl, rfl, ex_t (aside_sub _ _) sa, ex_t (aside_sub _ _) sb, sz_of hz, fun z => ?_, fun _ z => ?_, fun _ _ r hr => ?_⟩
  · subst z
    exact q b H (Ex.refl H) sb
  · subst z
    rw [List.append_nil] at q
    exact q a H (Ex.refl H) sa
  · obtain ⟨n1, n2⟩ := A.fresh hr
    exact q r _ (Ex.new hr) (st_of (by rw [aside_at (off_hl n1 n2)]; exact upd_same))
theorem sl_step {lo hi : Option Int} (A : Hand H h l) (sa : SqT K (aside H [h, l]) a xs) (q : ∀ r H', Ex H H' → SqT K (aside H' [h, l]) r (cutV xs lo hi) → Q (.ref r) H') : rSlA K (.ref a) lo hi H Q := by
  refine ⟨a, xs, rfl, ex_t (aside_sub _ _) sa, fun z => ?_, fun _ r hr => ?_⟩
  · have e : cutV xs lo hi = xs := by
      unfold cutV
      rw [z.1, z.2]
      simp
    rw [e] at q
    exact q a H (Ex.refl H) sa
  · obtain ⟨n1, n2⟩ := A.fresh hr
    exact q r _ (Ex.new hr) (st_of (by rw [aside_at (off_hl n1 n2)]; exact upd_same))
theorem cut_to {i : Nat} (hi : i ≤ xs.length) : cutV xs none (some (i : Int)) = xs.take i := by
  unfold cutV
  rw [HT.sIx_none, HT.sIx_nat, Nat.min_eq_left hi]
  simp
theorem cut_from {i : Nat} : cutV xs (some (i : Int)) none = xs.drop i := by
  unfold cutV
  rw [HT.sIx_none, HT.sIx_nat]
  by_cases hi : i ≤ xs.length
  · rw [Nat.min_eq_left hi, List.take_of_length_le (by rw [List.length_drop]; omega)]
  · rw [Nat.min_eq_right (by omega), List.drop_of_length_le (Nat.le_refl _), List.drop_of_length_le (by omega)]
    simp
theorem at_nat {i : Nat} {v : V} (h : xs[i]? = some v) : atI xs (i : Int) = some v := by
  have hi := (List.getElem?_eq_some_iff.mp h).1
  unfold atI ixN
  rw [if_pos (by omega), if_pos (by omega)]
  simpa using h
end
/-! ### a place in a datum -/
def leads : PyData → List Nat → Prop
  | _, [] => True
  | .tuple ds, i :: is => match ds[i]? with
    | some e => leads e is
    | none => False
  | _, _ :: _ => False
theorem leads_cons {d : PyData} {i : Nat} {is : List Nat} (h : leads d (i :: is)) : ∃ ds e, d = .tuple ds ∧ ds[i]? = some e ∧ leads e is := by
  cases d with
  | tuple ds =>
    simp only [leads] at h
    cases he : ds[i]? with
    | none => rw [he] at h; exact h.elim
    | some e => rw [he] at h; exact ⟨ds, e, rfl, he, h⟩
  | _ => simp only [leads] at h
/-- what is led to -/
def there : PyData → List Nat → PyData
  | d, [] => d
  | .tuple ds, i :: is => there (ds.getD i .none) is
  | d, _ :: _ => d
theorem leads_app : ∀ {is : List Nat} {d : PyData} {i : Nat} {ds : List PyData}, leads d is → there d is = .tuple ds → i < ds.length → leads d (is ++ [i]) ∧ there d (is ++ [i]) = ds.getD i .none
  | [], d, i, ds, _, h, hi => by
    simp only [there] at h
    subst h
    simp only [List.nil_append, leads, there, List.getElem?_eq_getElem hi]
    exact ⟨trivial, trivial⟩
  | j :: is, d, i, ds, hl, h, hi => by
    obtain ⟨es, e, rfl, he, hl2⟩ := leads_cons hl
    simp only [there] at h
    have ee : es.getD j .none = e := by rw [List.getD_eq_getElem?_getD, he]; rfl
    rw [ee] at h
    obtain ⟨k1, k2⟩ := leads_app (is := is) hl2 h hi
    simp only [List.cons_append, leads, there, he, ee]
    exact ⟨k1, k2⟩
theorem dya_get {K : PySem.W.Frag} {H : Hp} : ∀ {vs : List V} {ds : List PyData} {i : Nat} {v : V}, DyAll K H vs ds → vs[i]? = some v → ∃ d, ds[i]? = some d ∧ Dy K H v d
  | _, _, _, _, .nil, e => by simp at e
  | _, _, 0, _, .cons r _, e => by simp at e; subst e; exact ⟨_, rfl, r⟩
  | _, _, i + 1, v, .cons _ t, e => by
    obtain ⟨d, h1, h2⟩ := dya_get (i := i) (v := v) t (by simpa using e)
    exact ⟨d, by simpa using h1, h2⟩
theorem dya_len {K : PySem.W.Frag} {H : Hp} {vs : List V} {ds : List PyData} (h : DyAll K H vs ds) : vs.length = ds.length := dxa_len (dya_dx h)
theorem dya_take {K : PySem.W.Frag} {H : Hp} : ∀ {vs : List V} {ds : List PyData} (i : Nat), DyAll K H vs ds → DyAll K H (vs.take i) (ds.take i)
  | _, _, 0, _ => by simp; exact .nil
  | _, _, i + 1, .nil => by simp; exact .nil
  | _, _, i + 1, .cons a b => by simp only [List.take_succ_cons]; exact .cons a (dya_take i b)
theorem dya_drop {K : PySem.W.Frag} {H : Hp} : ∀ {vs : List V} {ds : List PyData} (i : Nat), DyAll K H vs ds → DyAll K H (vs.drop i) (ds.drop i)
  | _, _, 0, h => by simpa using h
  | _, _, i + 1, .nil => by simp; exact .nil
  | _, _, i + 1, .cons a b => by simp only [List.drop_succ_cons]; exact dya_drop i b
theorem split_at {ds : List PyData} {i : Nat} {e : PyData} (h : ds[i]? = some e) : ds = ds.take i ++ e :: ds.drop (i + 1) := by
  obtain ⟨hi, he⟩ := List.getElem?_eq_some_iff.mp h
  rw [← he, List.getElem_cons_drop, List.take_append_drop]
theorem hu_e {k : Nat} {A : Around} (hr : Room k A) : A.units < cLine := by
  have := hr.un
  omega
theorem hu_e64 {k : Nat} {A : Around} (hr : Room k A) : A.units + 64 < cLine := by
  have := hr.un
  omega
end NL

/-! rows of a plan with the groups' bounds -/
namespace NL
open PySem L2 Evl
/-- name, a group's bound, the groups around it -/
abbrev Rb := Str × Option Int × List Str
def obV : Option Int → V
  | none => .non
  | some b => .int b
mutual
def Tr.rows : Tr → List Str → List Rb
  | .hand n, p => [(n, none, p)]
  | .grp n b ms, p => (n, some b, p) :: rowss ms (n :: p)
def rowss : List Tr → List Str → List Rb
  | [], _ => []
  | t :: ts, p => t.rows p ++ rowss ts p
end
def plainR (r : Rb) : Rw := (r.1, r.2.1.isSome, r.2.2)
mutual
theorem rows_told : ∀ (t : Tr) (p : List Str), (t.rows p).map plainR = t.told p
  | .hand n, p => by simp [Tr.rows, Tr.told, plainR]
  | .grp n b ms, p => by simp [Tr.rows, Tr.told, plainR, rowss_told ms]
theorem rowss_told : ∀ (ts : List Tr) (p : List Str), (rowss ts p).map plainR = tolds ts p
  | [], p => by simp [rowss, tolds]
  | t :: ts, p => by simp [rowss, tolds, rows_told t, rowss_told ts]
end
theorem rows_len (t : Tr) (p : List Str) : (t.rows p).length = t.size := by rw [← told_len t p, ← rows_told, List.length_map]
theorem rowss_len (ts : List Tr) (p : List Str) : (rowss ts p).length = sizes ts := by rw [← tolds_len ts p, ← rowss_told, List.length_map]
theorem rowss_take : ∀ (ts : List Tr) (i : Nat) (t : Tr) (p : List Str), ts[i]? = some t → rowss (ts.take (i + 1)) p = rowss (ts.take i) p ++ t.rows p
  | [], _, _, _, h => by simp at h
  | u :: ts, 0, t, p, h => by
    simp at h
    subst h
    simp [rowss]
  | u :: ts, i + 1, t, p, h => by
    have ih := rowss_take ts i t p (by simpa using h)
    simp only [List.take_succ_cons, rowss]
    rw [ih, List.append_assoc]
/-- a row with its bound, in the heap -/
def RowB (H : Hp) (v : V) (r : Rb) : Prop := ∃ a pa, v = .ref a ∧ H a = some (.tup [.str r.1, obV r.2.1, .ref pa]) ∧ H pa = some (.tup (r.2.2.map V.str))
inductive RowsB (H : Hp) : List V → List Rb → Prop
  | nil : RowsB H [] []
  | cons {v : V} {vs : List V} {r : Rb} {rs : List Rb} : RowB H v r → RowsB H vs rs → RowsB H (v :: vs) (r :: rs)
theorem RowB.tk {H H' : Hp} {v : V} {r : Rb} (k : TK H H') (h : RowB H v r) : RowB H' v r := by
  obtain ⟨a, pa, e, h1, h2⟩ := h
  exact ⟨a, pa, e, k _ _ h1, k _ _ h2⟩
theorem RowsB.tk {H H' : Hp} (k : TK H H') : ∀ {vs : List V} {rs : List Rb}, RowsB H vs rs → RowsB H' vs rs
  | _, _, .nil => .nil
  | _, _, .cons a b => .cons (a.tk k) (b.tk k)
theorem RowsB.app {H : Hp} : ∀ {vs us : List V} {rs qs : List Rb}, RowsB H vs rs → RowsB H us qs → RowsB H (vs ++ us) (rs ++ qs)
  | _, _, _, _, .nil, h => h
  | _, _, _, _, .cons a b, h => .cons a (b.app h)
theorem RowsB.one {H : Hp} {v : V} {r : Rb} (h : RowB H v r) : RowsB H [v] [r] := .cons h .nil
theorem RowsB.len {H : Hp} : ∀ {vs : List V} {rs : List Rb}, RowsB H vs rs → vs.length = rs.length
  | _, _, .nil => rfl
  | _, _, .cons _ t => by rw [List.length_cons, List.length_cons, t.len]
theorem RowsB.get {H : Hp} : ∀ {vs : List V} {rs : List Rb} {i : Nat} {v : V}, RowsB H vs rs → vs[i]? = some v → ∃ r, rs[i]? = some r ∧ RowB H v r
  | _, _, _, _, .nil, e => by simp at e
  | _, _, 0, _, .cons r _, e => by simp at e; subst e; exact ⟨_, rfl, r⟩
  | _, _, i + 1, v, .cons _ t, e => by
    obtain ⟨d, h1, h2⟩ := t.get (i := i) (v := v) (by simpa using e)
    exact ⟨d, by simpa using h1, h2⟩
def handsOf (t : Tr) : List Str := ((t.told []).filter fun r => !r.2.1).map (·.1)
def groupsOf (t : Tr) : List Str := ((t.told []).filter fun r => r.2.1).map (·.1)
theorem hands_rows (t : Tr) : handsOf t = ((t.rows []).filter fun r => !r.2.1.isSome).map (·.1) := by
  unfold handsOf
  rw [← rows_told, List.filter_map, List.map_map]
  rfl
theorem groups_rows (t : Tr) : groupsOf t = ((t.rows []).filter fun r => r.2.1.isSome).map (·.1) := by
  unfold groupsOf
  rw [← rows_told, List.filter_map, List.map_map]
  rfl
theorem find_rows {x : Str} : ∀ {rs : List Rb}, (rs.map plainR).find? (fun r => decide (r.1 = x)) = (rs.find? fun r => decide (r.1 = x)).map plainR
  | [] => rfl
  | r :: rs => by
    rw [List.map_cons, List.find?_cons, List.find?_cons]
    by_cases h : r.1 = x
    · have e : decide ((plainR r).1 = x) = true := decide_eq_true h
      rw [e, decide_eq_true h]
      rfl
    · have e : decide ((plainR r).1 = x) = false := decide_eq_false h
      rw [e, decide_eq_false h]
      exact find_rows
end NL

/-! trees: groups in them, paths, names told for others -/
namespace NL
open PySem L2 Evl
mutual
theorem told_under : ∀ (t : Tr) (q p : List Str), t.told (q ++ p) = (t.told q).map fun r => (r.1, r.2.1, r.2.2 ++ p)
  | .hand n, q, p => by simp [Tr.told]
  | .grp n b ms, q, p => by
    simp only [Tr.told, List.map_cons]
    rw [show n :: (q ++ p) = (n :: q) ++ p from rfl, tolds_under ms (n :: q) p]
theorem tolds_under : ∀ (ts : List Tr) (q p : List Str), tolds ts (q ++ p) = (tolds ts q).map fun r => (r.1, r.2.1, r.2.2 ++ p)
  | [], q, p => by simp [tolds]
  | t :: ts, q, p => by
    simp only [tolds, List.map_append]
    rw [told_under t, tolds_under ts]
end
mutual
def Tr.inn : Tr → List Str → List (Tr × List Str)
  | .hand _, _ => []
  | .grp n b ms, p => (.grp n b ms, p) :: inns ms (n :: p)
def inns : List Tr → List Str → List (Tr × List Str)
  | [], _ => []
  | t :: ts, p => t.inn p ++ inns ts p
end
mutual
theorem inn_in : ∀ (t : Tr) (p : List Str) (o : Tr) (q : List Str), (o, q) ∈ t.inn p → ∃ A B, t.told p = A ++ o.told q ++ B
  | .hand n, p, o, q, h => by simp [Tr.inn] at h
  | .grp n b ms, p, o, q, h => by
    simp only [Tr.inn, List.mem_cons, Prod.mk.injEq] at h
    rcases h with ⟨rfl, rfl⟩ | h
    · exact ⟨[], [], by simp⟩
    · obtain ⟨A, B, e⟩ := inns_in ms (n :: p) o q h
      exact ⟨(n, true, p) :: A, B, by simp [Tr.told, e]⟩
theorem inns_in : ∀ (ts : List Tr) (p : List Str) (o : Tr) (q : List Str), (o, q) ∈ inns ts p → ∃ A B, tolds ts p = A ++ o.told q ++ B
  | [], p, o, q, h => by simp [inns] at h
  | t :: ts, p, o, q, h => by
    simp only [inns, List.mem_append] at h
    rcases h with h | h
    · obtain ⟨A, B, e⟩ := inn_in t p o q h
      exact ⟨A, B ++ tolds ts p, by simp [tolds, e]⟩
    · obtain ⟨A, B, e⟩ := inns_in ts p o q h
      exact ⟨t.told p ++ A, B, by simp [tolds, e]⟩
end
mutual
theorem inn_ok : ∀ (t : Tr) (p : List Str) (o : Tr) (q : List Str), (o, q) ∈ t.inn p → t.ok → o.ok ∧ o.deep ≤ t.deep ∧ ∃ n b ms, o = .grp n b ms
  | .hand n, p, o, q, h, _ => by simp [Tr.inn] at h
  | .grp n b ms, p, o, q, h, ho => by
    simp only [Tr.inn, List.mem_cons, Prod.mk.injEq] at h
    rcases h with ⟨rfl, rfl⟩ | h
    · exact ⟨ho, Nat.le_refl _, _, _, _, rfl⟩
    · simp only [Tr.ok] at ho
      obtain ⟨h1, h2, h3⟩ := inns_ok ms (n :: p) o q h ho.2.2.2
      exact ⟨h1, by simp only [Tr.deep]; omega, h3⟩
theorem inns_ok : ∀ (ts : List Tr) (p : List Str) (o : Tr) (q : List Str), (o, q) ∈ inns ts p → oks ts → o.ok ∧ o.deep ≤ deeps ts ∧ ∃ n b ms, o = .grp n b ms
  | [], p, o, q, h, _ => by simp [inns] at h
  | t :: ts, p, o, q, h, ho => by
    simp only [inns, List.mem_append] at h
    simp only [oks] at ho
    simp only [deeps]
    rcases h with h | h
    · obtain ⟨h1, h2, h3⟩ := inn_ok t p o q h ho.1
      exact ⟨h1, by omega, h3⟩
    · obtain ⟨h1, h2, h3⟩ := inns_ok ts p o q h ho.2
      exact ⟨h1, by omega, h3⟩
end
mutual
theorem inn_len : ∀ (t : Tr) (p : List Str), (t.inn p).length ≤ t.size
  | .hand n, p => by simp [Tr.inn]
  | .grp n b ms, p => by
    have := inns_len ms (n :: p)
    simp only [Tr.inn, List.length_cons, Tr.size]
    omega
theorem inns_len : ∀ (ts : List Tr) (p : List Str), (inns ts p).length ≤ sizes ts
  | [], p => by simp [inns]
  | t :: ts, p => by
    have := inn_len t p
    have := inns_len ts p
    simp only [inns, List.length_append, sizes]
    omega
end
theorem inns_take : ∀ (ts : List Tr) (i : Nat) (t : Tr) (p : List Str), ts[i]? = some t → inns (ts.take (i + 1)) p = inns (ts.take i) p ++ t.inn p
  | [], _, _, _, h => by simp at h
  | u :: ts, 0, t, p, h => by
    simp at h
    subst h
    simp [inns]
  | u :: ts, i + 1, t, p, h => by
    have ih := inns_take ts i t p (by simpa using h)
    simp only [List.take_succ_cons, inns]
    rw [ih, List.append_assoc]
theorem tolds_app : ∀ (ts us : List Tr) (p : List Str), tolds (ts ++ us) p = tolds ts p ++ tolds us p
  | [], us, p => by simp [tolds]
  | t :: ts, us, p => by simp [tolds, tolds_app ts us p]
theorem find_rowN : ∀ {rs : List Rw} {r : Rw}, (rs.map (·.1)).Nodup → r ∈ rs → rs.find? (fun x => decide (x.1 = r.1)) = some r
  | [], _, _, h => by cases h
  | s :: rs, r, nd, h => by
    rw [List.map_cons, List.nodup_cons] at nd
    rw [List.find?_cons]
    rcases List.mem_cons.mp h with rfl | h
    · rw [decide_eq_true rfl]
    · have ne : s.1 ≠ r.1 := fun e => nd.1 (by rw [e]; exact List.mem_map.mpr ⟨r, h, rfl⟩)
      rw [decide_eq_false ne]
      exact find_rowN nd.2 h
theorem hands_under (o : Tr) (q : List Str) : ((o.told q).filter fun r => !r.2.1).map (·.1) = handsOf o := by
  have e := told_under o [] q
  rw [List.nil_append] at e
  rw [e]
  unfold handsOf
  rw [List.filter_map, List.map_map]
  rfl
theorem groups_under (o : Tr) (q : List Str) : ((o.told q).filter fun r => r.2.1).map (·.1) = groupsOf o := by
  have e := told_under o [] q
  rw [List.nil_append] at e
  rw [e]
  unfold groupsOf
  rw [List.filter_map, List.map_map]
  rfl
theorem nodup_sub {α : Type} {A X B l : List α} (h : l = A ++ X ++ B) (nd : l.Nodup) : X.Nodup := by
  subst h
  exact (List.nodup_append.mp (List.nodup_append.mp nd).1).2.1
theorem nms_sub {t o : Tr} {p q : List Str} {A B : List Rw} (h : t.told p = A ++ o.told q ++ B) : t.nms = A.map (·.1) ++ o.nms ++ B.map (·.1) := by
  rw [← told_nms t p, h, List.map_append, List.map_append, told_nms]
theorem hands_in (t : Tr) : ∀ x ∈ handsOf t, x ∈ t.nms := fun x hx => by
  unfold handsOf at hx
  obtain ⟨r, h1, rfl⟩ := List.mem_map.mp hx
  rw [← told_nms t []]
  exact List.mem_map.mpr ⟨r, (List.mem_filter.mp h1).1, rfl⟩
theorem groups_in (t : Tr) : ∀ x ∈ groupsOf t, x ∈ t.nms := fun x hx => by
  unfold groupsOf at hx
  obtain ⟨r, h1, rfl⟩ := List.mem_map.mp hx
  rw [← told_nms t []]
  exact List.mem_map.mpr ⟨r, (List.mem_filter.mp h1).1, rfl⟩
theorem part_nodup : ∀ {rs : List Rw}, (rs.map (·.1)).Nodup → (((rs.filter fun r => !r.2.1).map (·.1)) ++ ((rs.filter fun r => r.2.1).map (·.1))).Nodup
  | [], _ => by simp
  | r :: rs, nd => by
    rw [List.map_cons, List.nodup_cons] at nd
    have ih := part_nodup nd.2
    have out : ∀ f : Rw → Bool, r.1 ∉ (rs.filter f).map (·.1) := fun f h => by
      obtain ⟨s, h1, h2⟩ := List.mem_map.mp h
      exact nd.1 (List.mem_map.mpr ⟨s, (List.mem_filter.mp h1).1, h2⟩)
    cases hr : r.2.1 with
    | false =>
      simp only [List.filter_cons, hr, Bool.not_false, if_true, Bool.false_eq_true, if_false, List.map_cons, List.cons_append]
      refine List.nodup_cons.mpr ⟨fun h => ?_, ih⟩
      rcases List.mem_append.mp h with h | h
      · exact out _ h
      · exact out _ h
    | true =>
      simp only [List.filter_cons, hr, Bool.not_true, if_true, Bool.false_eq_true, if_false, List.map_cons]
      rw [List.nodup_append] at ih ⊢
      refine ⟨ih.1, List.nodup_cons.mpr ⟨out _, ih.2.1⟩, fun a ha b hb => ?_⟩
      rcases List.mem_cons.mp hb with rfl | hb
      · exact fun e => out _ (e ▸ ha)
      · exact ih.2.2 a ha b hb
theorem names_nodup {t : Tr} (h : t.nms.Nodup) : (handsOf t ++ groupsOf t).Nodup := part_nodup (by rw [told_nms]; exact h)
theorem part_len : ∀ rs : List Rw, ((rs.filter fun r => !r.2.1).map (·.1)).length + ((rs.filter fun r => r.2.1).map (·.1)).length = rs.length
  | [] => rfl
  | r :: rs => by
    have ih := part_len rs
    simp only [List.length_map] at ih ⊢
    cases hr : r.2.1 with
    | false => simp only [List.filter_cons, hr, Bool.not_false, if_true, Bool.false_eq_true, if_false, List.length_cons]; omega
    | true => simp only [List.filter_cons, hr, Bool.not_true, if_true, Bool.false_eq_true, if_false, List.length_cons]; omega
theorem names_len (t : Tr) : (handsOf t ++ groupsOf t).length = t.size := by
  rw [List.length_append]
  unfold handsOf groupsOf
  rw [part_len, told_len]
/-! ### each row's path ends at the whole -/
theorem tolds_end (ts : List Tr) (p : List Str) : ∀ r ∈ tolds ts p, ∃ q, r.2.2 = q ++ p := fun r h => by
  have e := tolds_under ts [] p
  rw [List.nil_append] at e
  rw [e] at h
  obtain ⟨s, _, rfl⟩ := List.mem_map.mp h
  exact ⟨_, rfl⟩
/-! ### names told for others -/
mutual
def Tr.ren (o w : Str) : Tr → Tr
  | .hand n => .hand (if n = o then w else n)
  | .grp n b ms => .grp (if n = o then w else n) b (rens o w ms)
def rens (o w : Str) : List Tr → List Tr
  | [] => []
  | t :: ts => t.ren o w :: rens o w ts
end
mutual
theorem ren_facts (o w : Str) : ∀ t : Tr, (t.ren o w).nms = t.nms.map (fun n => if n = o then w else n) ∧ (t.ren o w).size = t.size ∧ (t.ren o w).deep = t.deep ∧ (t.ok → (t.ren o w).ok)
  | .hand n => by simp [Tr.ren, Tr.nms, Tr.size, Tr.deep, Tr.ok]
  | .grp n b ms => by
    obtain ⟨h1, h2, h3, h4⟩ := rens_facts o w ms
    simp only [Tr.ren, Tr.nms, Tr.size, Tr.deep, Tr.ok, h1, h2, h3, List.map_cons]
    refine ⟨trivial, trivial, trivial, fun h => ⟨h.1, h.2.1, ?_, h4 h.2.2.2⟩⟩
    cases ms with
    | nil => exact absurd rfl h.2.2.1
    | cons m ms => simp [rens]
theorem rens_facts (o w : Str) : ∀ ts : List Tr, nmss (rens o w ts) = (nmss ts).map (fun n => if n = o then w else n) ∧ sizes (rens o w ts) = sizes ts ∧ deeps (rens o w ts) = deeps ts ∧ (oks ts → oks (rens o w ts))
  | [] => by simp [rens, nmss, sizes, deeps, oks]
  | t :: ts => by
    obtain ⟨h1, h2, h3, h4⟩ := ren_facts o w t
    obtain ⟨k1, k2, k3, k4⟩ := rens_facts o w ts
    simp only [rens, nmss, sizes, deeps, oks, h1, h2, h3, k1, k2, k3, List.map_append]
    exact ⟨trivial, trivial, trivial, fun h => ⟨h4 h.1, k4 h.2⟩⟩
end
theorem rens_take (o w : Str) : ∀ (ts : List Tr) (i : Nat) (t : Tr), ts[i]? = some t → rens o w (ts.take (i + 1)) = rens o w (ts.take i) ++ [t.ren o w]
  | [], _, _, h => by simp at h
  | u :: ts, 0, t, h => by
    simp at h
    subst h
    simp [rens]
  | u :: ts, i + 1, t, h => by
    have ih := rens_take o w ts i t (by simpa using h)
    simp only [List.take_succ_cons, rens]
    rw [ih]
    rfl
theorem rens_len (o w : Str) : ∀ ts : List Tr, (rens o w ts).length = ts.length
  | [] => rfl
  | t :: ts => by simp [rens, rens_len o w ts]
theorem map_dup {f : Str → Str} {a b : Str} : ∀ {l : List Str}, a ∈ l → b ∈ l → a ≠ b → f a = f b → ¬ (l.map f).Nodup
  | [], h, _, _, _ => by cases h
  | x :: l, ha, hb, ne, e => fun nd => by
    rw [List.map_cons, List.nodup_cons] at nd
    rcases List.mem_cons.mp ha with h1 | h1
    · rcases List.mem_cons.mp hb with h2 | h2
      · exact ne (h1.trans h2.symm)
      · exact nd.1 (by rw [← h1, e]; exact List.mem_map.mpr ⟨b, h2, rfl⟩)
    · rcases List.mem_cons.mp hb with h2 | h2
      · exact nd.1 (by rw [← h2, ← e]; exact List.mem_map.mpr ⟨a, h1, rfl⟩)
      · exact map_dup h1 h2 ne e nd.2
theorem map_inj {f : Str → Str} : ∀ {l : List Str}, (∀ a ∈ l, ∀ b ∈ l, f a = f b → a = b) → l.Nodup → (l.map f).Nodup
  | [], _, _ => by simp
  | x :: l, h, nd => by
    rw [List.nodup_cons] at nd
    rw [List.map_cons, List.nodup_cons]
    refine ⟨fun z => ?_, map_inj (fun a ha b hb => h a (List.mem_cons_of_mem _ ha) b (List.mem_cons_of_mem _ hb)) nd.2⟩
    obtain ⟨y, h1, h2⟩ := List.mem_map.mp z
    have := h y (List.mem_cons_of_mem _ h1) x (List.mem_cons_self ..) h2
    subst this
    exact nd.1 h1
theorem ren_out {o w : Str} {l : List Str} (hw : w ∉ l) (nd : l.Nodup) : (l.map fun n => if n = o then w else n).Nodup := by
  refine map_inj (fun a ha b hb e => ?_) nd
  by_cases h1 : a = o
  · by_cases h2 : b = o
    · rw [h1, h2]
    · rw [if_pos h1, if_neg h2] at e
      exact absurd (e ▸ hb) hw
  · by_cases h2 : b = o
    · rw [if_neg h1, if_pos h2] at e
      exact absurd (e ▸ ha) hw
    · rw [if_neg h1, if_neg h2] at e
      exact e
theorem ren_two {o w : Str} {l : List Str} (ho : o ∈ l) (hw : w ∈ l) (nd : l.Nodup) : (l.map fun n => if n = o then w else n).Nodup ↔ o = w := by
  constructor
  · intro h
    by_cases e : o = w
    · exact e
    · exact absurd h (map_dup (f := fun n => if n = o then w else n) ho hw e (by
        show (if o = o then w else o) = (if w = o then w else w)
        rw [if_pos rfl]
        split <;> rfl))
  · intro e
    subst e
    have : (l.map fun n => if n = o then o else n) = l := by
      have : (fun n : Str => if n = o then o else n) = id := by
        funext n
        by_cases h : n = o
        · rw [if_pos h, h]; rfl
        · rw [if_neg h]; rfl
      rw [this, List.map_id]
    rw [this]
    exact nd
/-! ### a tree is a plan where its names are unlike -/
theorem alpha_in (c : Nat) : c ∈ ("abcdefghijklmnopqrstuvwxyz" : Str).cps.toList ↔ 97 ≤ c ∧ c ≤ 122 := by
  have e : ("abcdefghijklmnopqrstuvwxyz" : Str).cps.toList = List.range' 97 26 := by decide +kernel
  rw [e, List.mem_range'_1]
  omega
theorem ok_nameB {s : Str} (h : nameOk s) : nameB s = true := by
  unfold nameB
  simp only [Bool.and_eq_true, decide_eq_true_eq, List.all_eq_true]
  exact ⟨⟨h.1, h.2.1⟩, fun c hc => (alpha_in c).mpr (h.2.2 c hc)⟩
mutual
theorem all_tree : ∀ t : Tr, t.ok → (∀ n ∈ t.nms, nameOk n) → allM t.dat = some t.nms
  | .hand n, _, h => by
    simp only [Tr.dat, Tr.nms, allM]
    rw [if_pos (ok_nameB (h n (by simp [Tr.nms])))]
  | .grp n b ms, ho, h => by
    simp only [Tr.ok] at ho
    have ih := alls_tree ms ho.2.2.2 (fun x hx => h x (by simp [Tr.nms, hx]))
    have hne : dats ms ≠ [] := by
      cases ms with
      | nil => exact absurd rfl ho.2.2.1
      | cons m ms => simp [dats]
    simp only [Tr.dat, Tr.nms, allM]
    rw [if_pos ⟨ho.1, hne, ok_nameB (h n (by simp [Tr.nms]))⟩, ih]
theorem alls_tree : ∀ ts : List Tr, oks ts → (∀ n ∈ nmss ts, nameOk n) → allMs (dats ts) = some (nmss ts)
  | [], _, _ => by simp [dats, allMs, nmss]
  | t :: ts, ho, h => by
    simp only [oks] at ho
    have h1 := all_tree t ho.1 (fun x hx => h x (by simp [nmss, hx]))
    have h2 := alls_tree ts ho.2 (fun x hx => h x (by simp [nmss, hx]))
    simp only [dats, allMs, nmss, h1, h2]
end
theorem plan_tree {n : Str} {b : Int} {ms : List Tr} (ho : (Tr.grp n b ms).ok) (h : ∀ x ∈ (Tr.grp n b ms).nms, nameOk x) : planB (Tr.grp n b ms).dat = decide (Tr.grp n b ms).nms.Nodup := by
  have e := all_tree _ ho h
  rw [plan_unique]
  have e2 : allG (Tr.grp n b ms).dat = some (Tr.grp n b ms).nms := by
    rw [← e]
    simp only [Tr.dat]
    rfl
  rw [e2]
  rfl
end NL

namespace NL
open PySem L2 Evl
/-! ### turns, and even plans, as trees -/
mutual
def Tr.hn : Tr → Nat
  | .hand _ => 1
  | .grp _ _ ms => hns ms
def hns : List Tr → Nat
  | [] => 0
  | t :: ts => t.hn + hns ts
end
mutual
theorem told_hn : ∀ (t : Tr) (p : List Str), ((t.told p).filter fun r => !r.2.1).length = t.hn
  | .hand n, p => by simp [Tr.told, Tr.hn]
  | .grp n b ms, p => by simp [Tr.told, Tr.hn, tolds_hn ms]
theorem tolds_hn : ∀ (ts : List Tr) (p : List Str), ((tolds ts p).filter fun r => !r.2.1).length = hns ts
  | [], p => by simp [tolds, hns]
  | t :: ts, p => by simp [tolds, hns, told_hn t, tolds_hn ts]
end
theorem hands_hn (t : Tr) : (handsOf t).length = t.hn := by
  unfold handsOf
  rw [List.length_map, told_hn]
mutual
def Tr.turn : Tr → Int
  | .hand _ => 1
  | .grp _ b ms => if hns ms = 1 then 1 else b * maxs ms
def maxs : List Tr → Int
  | [] => 0
  | t :: ts => max t.turn (maxs ts)
end
mutual
theorem turn_pos : ∀ t : Tr, t.ok → 1 ≤ t.turn
  | .hand _, _ => by simp [Tr.turn]
  | .grp n b ms, h => by
    simp only [Tr.ok] at h
    simp only [Tr.turn]
    split
    · decide
    · have := maxs_pos ms h.2.2.2 h.2.2.1
      have h1 : 1 * 1 ≤ b * maxs ms := Int.mul_le_mul h.1 this (by decide) (by omega)
      simpa using h1
theorem maxs_pos : ∀ ts : List Tr, oks ts → ts ≠ [] → 1 ≤ maxs ts
  | [], _, h => (h rfl).elim
  | t :: ts, h, _ => by
    have := turn_pos t h.1
    simp only [maxs]
    omega
end
theorem maxs_ge : ∀ {ts : List Tr}, ∀ t ∈ ts, t.turn ≤ maxs ts
  | u :: ts, t, h => by
    simp only [maxs]
    rcases List.mem_cons.mp h with rfl | h
    · omega
    · have := maxs_ge t h
      omega
theorem maxs_mem : ∀ {ts : List Tr}, oks ts → ts ≠ [] → ∃ t ∈ ts, t.turn = maxs ts
  | [t], h, _ => ⟨t, by simp, by
    have := turn_pos t h.1
    simp only [maxs]
    omega⟩
  | t :: u :: ts, h, _ => by
    obtain ⟨x, hx, e⟩ := maxs_mem (ts := u :: ts) h.2 (List.cons_ne_nil _ _)
    by_cases c : t.turn ≤ maxs (u :: ts)
    · refine ⟨x, List.mem_cons_of_mem _ hx, ?_⟩
      rw [e]
      simp only [maxs] at c ⊢
      omega
    · refine ⟨t, List.mem_cons_self .., ?_⟩
      simp only [maxs] at c ⊢
      omega
/-- all have one turn -/
def alike (ts : List Tr) : Bool := decide (∀ a ∈ ts.map Tr.turn, ∀ b ∈ ts.map Tr.turn, a = b)
mutual
def Tr.level : Tr → Bool
  | .hand _ => true
  | .grp _ _ ms => alike ms && levels ms
def levels : List Tr → Bool
  | [] => true
  | t :: ts => t.level && levels ts
end
theorem levels_all : ∀ ts : List Tr, levels ts = ts.all Tr.level
  | [] => rfl
  | t :: ts => by simp only [levels, List.all_cons, levels_all ts]
def turnsV (ts : List Tr) : List V := (ts.map Tr.turn).map V.int
section
variable {K : PySem.W.Frag} {σ : L2.St} {H : Hp} {ta : TE} {ns : List Int}
theorem maxK {X : Cx} (h : X.K = K) (hc : X.calm = true) : CallR X (.builtin "max") (rMax K) := by subst h; exact cr_max hc
theorem minK {X : Cx} (h : X.K = K) (hc : X.calm = true) : CallR X (.builtin "min") (rMin K) := by subst h; exact cr_min hc
theorem ev_maxN {m : Int} (h : EvL ta σ H (ns.map V.int)) (hm : m ∈ ns) (hle : ∀ y ∈ ns, y ≤ m) : Ev (tCB (rMax K) (tCons ta tNil)) σ H (.int m) := fun H1 e Q q =>
  h H1 e _ fun p H2 hp e2 h2 => ⟨p, ns, rfl, sq_of h2, List.length_pos_of_mem hm, fun x hx hx2 => by
    have : x = m := by
      have := hle x hx
      have := hx2 m hm
      omega
    rw [this]
    exact q H2 e2⟩
theorem ev_maxV {m : Int} {a : Addr} (h : Ev ta σ H (.ref a)) (ha : H a = some (.lst (ns.map V.int))) (hm : m ∈ ns) (hle : ∀ y ∈ ns, y ≤ m) : Ev (tCB (rMax K) (tCons ta tNil)) σ H (.int m) := fun H1 e Q q =>
  h H1 e _ fun H2 e2 => ⟨a, ns, rfl, sq_of ((e.trans e2) _ _ ha), List.length_pos_of_mem hm, fun x hx hx2 => by
    have : x = m := by
      have := hle x hx
      have := hx2 m hm
      omega
    rw [this]
    exact q H2 e2⟩
theorem ev_minV {m : Int} {a : Addr} (h : Ev ta σ H (.ref a)) (ha : H a = some (.lst (ns.map V.int))) (hm : m ∈ ns) (hle : ∀ y ∈ ns, m ≤ y) : Ev (tCB (rMin K) (tCons ta tNil)) σ H (.int m) := fun H1 e Q q =>
  h H1 e _ fun H2 e2 => ⟨a, ns, rfl, sq_of ((e.trans e2) _ _ ha), List.length_pos_of_mem hm, fun x hx hx2 => by
    have : x = m := by
      have := hle x hx
      have := hx2 m hm
      omega
    rw [this]
    exact q H2 e2⟩
end
theorem max_in {ts : List Tr} (h : oks ts) (hn : ts ≠ []) : maxs ts ∈ ts.map Tr.turn := by
  obtain ⟨t, ht, e⟩ := maxs_mem h hn
  exact List.mem_map.mpr ⟨t, ht, e⟩
theorem max_le {ts : List Tr} : ∀ y ∈ ts.map Tr.turn, y ≤ maxs ts := fun y hy => by
  obtain ⟨t, ht, rfl⟩ := List.mem_map.mp hy
  exact maxs_ge t ht
theorem least : ∀ {ns : List Int}, ns ≠ [] → ∃ m ∈ ns, ∀ y ∈ ns, m ≤ y
  | [n], _ => ⟨n, by simp, fun y hy => by rw [List.mem_singleton.mp hy]; exact Int.le_refl _⟩
  | n :: k :: ns, _ => by
    obtain ⟨m, hm, hl⟩ := least (ns := k :: ns) (List.cons_ne_nil _ _)
    by_cases c : n ≤ m
    · refine ⟨n, by simp, fun y hy => ?_⟩
      rcases List.mem_cons.mp hy with rfl | hy
      · exact Int.le_refl _
      · exact Int.le_trans c (hl y hy)
    · refine ⟨m, List.mem_cons_of_mem _ hm, fun y hy => ?_⟩
      rcases List.mem_cons.mp hy with rfl | hy
      · omega
      · exact hl y hy
theorem oks_get : ∀ {ts : List Tr} {i : Nat} {t : Tr}, oks ts → ts[i]? = some t → t.ok
  | t :: ts, 0, u, h, e => by cases e; exact h.1
  | t :: ts, i + 1, u, h, e => oks_get h.2 (by simpa using e)
theorem map_range {α : Type} (f : Tr → α) (ts : List Tr) : (List.range ts.length).map (fun i => f (ts.getD i (.hand ""))) = ts.map f := by
  apply List.ext_getElem
  · simp
  · intro i h1 h2
    have h3 : i < ts.length := by simpa using h2
    simp [List.getD_eq_getElem?_getD, h3]
end NL

/-! terms that tell some tuple of known things -/
namespace NL
open PySem L2 Evl
def EvS (K : PySem.W.Frag) (te : TE) (σ : L2.St) (H : Hp) (xs : List V) : Prop := ∀ H1, Ex H H1 → ∀ Q : VK, (∀ p H2, Ex H1 H2 → SqT K H2 p xs → Q (.ref p) H2) → te σ H1 Q
section
variable {K : PySem.W.Frag} {σ : L2.St} {H H' : Hp} {te ta tb : TE} {xs ys : List V}
theorem EvS.mono (e : Ex H H') (h : EvS K te σ H xs) : EvS K te σ H' xs := fun H1 a Q q => h H1 (e.trans a) Q q
theorem es_is (h : EvS K te σ H xs) (e : xs = ys) : EvS K te σ H ys := by
  subst e
  exact h
theorem es_ev {p : Addr} (h : Ev te σ H (.ref p)) (hs : SqT K H p xs) : EvS K te σ H xs := fun H1 e Q q => h H1 e _ fun H2 e2 => q p H2 e2 (ex_t (e.trans e2) hs)
theorem es_var {i : Nat} {p : Addr} (h : σ[i]? = some (some (.ref p))) (hs : SqT K H p xs) : EvS K (tVar i) σ H xs := es_ev (ev_var h) hs
theorem es_tup {tas : TA} (h : EvA tas σ H xs) (hl : xs.length ≤ 100000) : EvS K (tTup tas) σ H xs := fun H1 e Q q => h H1 e _ fun H2 e2 => ⟨sz_of hl, fun p hp => q p _ (e2.trans (Ex.new hp)) (st_of upd_same)⟩
theorem es_cat (ha : EvS K ta σ H xs) (hb : EvS K tb σ H ys) (hl : xs.length + ys.length ≤ 100000) : EvS K (tOp (rCatA K) ta tb) σ H (xs ++ ys) := fun H1 e Q q =>
  ha H1 e _ fun a H2 e2 sa => hb H2 (e.trans e2) _ fun b H3 e3 sb => by
    have sa3 := ex_t e3 sa
    refine ⟨a, b, xs, ys, rfl, rfl, sa3, sb, sz_of hl, fun z => ?_, fun _ z => ?_, fun _ _ p hp => ?_⟩
    · subst z
      exact q b H3 (e2.trans e3) sb
    · subst z
      exact q a H3 (e2.trans e3) (by rw [List.append_nil]; exact sa3)
    · exact q p _ ((e2.trans e3).trans (Ex.new hp)) (st_of upd_same)
theorem es_sl {tl th : TO} {lo hi : Option Int} (ha : EvS K te σ H xs) (h1 : EvO tl σ H lo) (h2 : EvO th σ H hi) : EvS K (tSl (rSlA K) te tl th) σ H (cutV xs lo hi) := fun H1 e Q q =>
  ha H1 e _ fun a H2 e2 sa => h1 H2 (e.trans e2) _ fun H3 e3 => h2 H3 ((e.trans e2).trans e3) _ fun H4 e4 => by
    have sa4 := ex_t (e3.trans e4) sa
    refine ⟨a, xs, rfl, sa4, fun z => ?_, fun _ p hp => ?_⟩
    · have ec : cutV xs lo hi = xs := by
        unfold cutV
        rw [z.1, z.2]
        simp
      rw [ec] at q
      exact q a H4 ((e2.trans e3).trans e4) sa4
    · exact q p _ (((e2.trans e3).trans e4).trans (Ex.new hp)) (st_of upd_same)
theorem ev_ixS {i : Int} {v : V} (ha : EvS K te σ H xs) (hb : Ev tb σ H (.int i)) (hi : atI xs i = some v) : Ev (tOp (rIxT K) te tb) σ H v := fun H1 e Q q =>
  ha H1 e _ fun a H2 e2 sa => hb H2 (e.trans e2) _ fun H3 e3 => ⟨a, xs, i, v, rfl, rfl, ex_t e3 sa, hi, q H3 (e2.trans e3)⟩
theorem ev_lenE (ha : EvS K te σ H xs) : Ev (tCB (rLenS K) (tCons te tNil)) σ H (.int (xs.length : Int)) := fun H1 e Q q =>
  ha H1 e _ fun a H2 e2 sa => ⟨a, xs, rfl, Or.inr sa, q H2 e2⟩
end
/-! ### tuples of names against one another -/
theorem eqv_strs : ∀ xs ys : List Str, PyData.eqvAll (xs.map PyData.str) (ys.map PyData.str) = decide (xs = ys)
  | [], [] => by simp [PyData.eqvAll]
  | [], y :: ys => by simp [PyData.eqvAll]
  | x :: xs, [] => by simp [PyData.eqvAll]
  | x :: xs, y :: ys => by
    simp only [List.map_cons, PyData.eqvAll, PyData.eqv, eqv_strs xs ys]
    rw [Bool.eq_iff_iff]
    simp
theorem shaped_strs {xs : List Str} (h : ∀ n ∈ xs, nameOk n) : SeqAt.shaped (.tuple (xs.map PyData.str)) = true := by
  obtain ⟨a, b⟩ := lay_strs h
  have c : PyData.canLay0 (.tuple (xs.map PyData.str)) = true := by
    simp only [PyData.canLay0]
    exact a
  have d : PyData.depth (.tuple (xs.map PyData.str)) ≤ 64 := by
    simp only [PyData.depth]
    omega
  unfold SeqAt.shaped
  rw [c, decide_eq_true d]
  rfl
section
variable {K : PySem.W.Frag} {σ : L2.St} {H : Hp} {te ta tb : TE} {xs ys : List Str}
theorem ev_eqS (ha : EvS K ta σ H (xs.map V.str)) (hb : EvS K tb σ H (ys.map V.str)) (hx : ∀ n ∈ xs, nameOk n) (hy : ∀ n ∈ ys, nameOk n) : Ev (tOp (rEqD K) ta tb) σ H (.bl (decide (xs = ys))) := fun H1 e Q q =>
  ha H1 e _ fun a H2 e2 sa => hb H2 (e.trans e2) _ fun b H3 e3 sb => by
    refine ⟨.tuple (xs.map PyData.str), .tuple (ys.map PyData.str), .tup (ex_t e3 sa) (dpa_strs xs), .tup sb (dpa_strs ys), shaped_strs hx, shaped_strs hy, ?_⟩
    have e4 : PyData.eqv (.tuple (xs.map PyData.str)) (.tuple (ys.map PyData.str)) = decide (xs = ys) := by
      simp only [PyData.eqv]
      exact eqv_strs xs ys
    rw [e4]
    exact q H3 (e2.trans e3)
theorem ev_neS (ha : EvS K ta σ H (xs.map V.str)) (hb : EvS K tb σ H (ys.map V.str)) (hx : ∀ n ∈ xs, nameOk n) (hy : ∀ n ∈ ys, nameOk n) : Ev (tOp (rNeD K) ta tb) σ H (.bl (!decide (xs = ys))) := fun H1 e Q q =>
  ha H1 e _ fun a H2 e2 sa => hb H2 (e.trans e2) _ fun b H3 e3 sb => by
    refine ⟨.tuple (xs.map PyData.str), .tuple (ys.map PyData.str), .tup (ex_t e3 sa) (dpa_strs xs), .tup sb (dpa_strs ys), shaped_strs hx, shaped_strs hy, ?_⟩
    have e4 : PyData.eqv (.tuple (xs.map PyData.str)) (.tuple (ys.map PyData.str)) = decide (xs = ys) := by
      simp only [PyData.eqv]
      exact eqv_strs xs ys
    rw [e4]
    exact q H3 (e2.trans e3)
end
section
variable {K : PySem.W.Frag} {σ : L2.St} {H : Hp} {te ta tb : TE} {xs : List V}
/-- a comprehension over some tuple of known things -/
theorem el_lcE {tl : TE} {tt : TT} {j : Nat} {vs : List Nat} (f : Nat → Bool) (g : Nat → V) (src : EvS K tl σ H xs) (few : xs.length ≤ 40000) (clean : ∀ x, wipe ((wipe σ vs).set j (some x)) vs = wipe σ vs)
    (test : ∀ (i : Nat) (x : V) H1, Ex H H1 → xs[i]? = some x → EvT tt ((wipe σ vs).set j (some x)) H1 (f i)) (give : ∀ (i : Nat) (x : V) H1, Ex H H1 → xs[i]? = some x → f i = true → Ev te ((wipe σ vs).set j (some x)) H1 (g i)) :
    EvL (tLc (iTup K tl) (gName j) tt te vs) σ H (given xs.length f g) := by
  intro H0 e0 Q next
  refine src H0 e0 _ fun a H1 e1 held => ?_
  have e01 : Ex H H1 := e0.trans e1
  refine ⟨a, rfl, ⟨xs, held⟩, fun made fresh => ?_⟩
  refine lc_tup (xs := xs) (Cw H1 f g made) ⟨fresh, Ex.new fresh, upd_same⟩ ?stays ?turn ?done
  case stays =>
    intro i H' _ inv
    exact ex_t inv.2.1 held
  case turn =>
    intro i x H' at_i inv
    have small : i < 50000 := by
      have := (List.getElem?_eq_some_iff.mp at_i).1
      omega
    exact ⟨clean x, cw_turn inv small (test i x H1 e01 at_i) (give i x H1 e01 at_i)⟩
  case done =>
    intro H' inv
    exact next made H' (fresh_back e1 inv.1) (e1.trans inv.2.1) inv.2.2
theorem q_asgS {i : Nat} {tz : TS} {D : Ends} (h : EvS K te σ H xs) (k : ∀ p H1, Ex H H1 → SqT K H1 p xs → tz D (σ.set i (some (.ref p))) H1) : tSeq (tAsg te (gName i)) tz D σ H := h H (Ex.refl H) _ fun p H1 e s => k p H1 e s
theorem q_forS {tl : TE} {j : Nat} {tu tz : TS} {D : Ends} (h : EvS K tl σ H xs) (Pv : Hp → Nat → L2.St → Hp → Prop) (h0 : ∀ H1, Ex H H1 → Pv H1 0 σ H1) (hl : ∀ H1 i σ' H', Pv H1 i σ' H' → Ex H1 H')
    (hs : ∀ H1 i x σ' H', Ex H H1 → xs[i]? = some x → Pv H1 i σ' H' → tu { D with nx := Pv H1 (i + 1), ct := Pv H1 (i + 1), bk := tz D } (σ'.set j (some x)) H') (hd : ∀ H1 σ' H', Ex H H1 → Pv H1 xs.length σ' H' → tz D σ' H') : tSeq (tFor (iTup K tl) (gName j) tu) tz D σ H := by
  refine h H (Ex.refl H) _ fun p H1 e sp => ?_
  exact ⟨p, rfl, ⟨xs, sp⟩, for_tup (Pv H1) (h0 H1 e) (fun i σ' H' _ hP => ex_t (hl H1 i σ' H' hP) sp) (fun i x σ' H' hx hP => hs H1 i x σ' H' e hx hP) (fun σ' H' hP => hd H1 σ' H' e hP)⟩
theorem ev_anyN {bs : List Bool} (ha : EvL ta σ H (bs.map V.bl)) : Ev (tCB (rAny K) (tCons ta tNil)) σ H (.bl (bs.any id)) := fun H1 e Q q =>
  ha H1 e _ fun p H2 _ e2 h2 => ⟨p, bs, rfl, sq_of h2, q H2 e2⟩
theorem anyK {X : Cx} (h : X.K = K) (hc : X.calm = true) : CallR X (.builtin "any") (rAny K) := by subst h; exact cr_any hc
end
theorem sqt_hand {K : PySem.W.Frag} {H H' : Hp} {h l a : Addr} {xs : List V} (A : Hand H h l) (k : Kp h l H H') (s : SqT K H a xs) : SqT K H' a xs := by
  rcases s with (s | ⟨o, s⟩) | s
  · obtain ⟨n, m⟩ := A.off s (fun _ z => by cases z)
    exact Or.inl (Or.inl (k a _ n m s))
  · obtain ⟨n, m⟩ := A.off s (fun _ z => by cases z)
    exact Or.inl (Or.inr ⟨o, k a _ n m s⟩)
  · exact Or.inr s
end NL

/-! plans as data that weigh so much -/
namespace NL
open PySem L2 Evl
section
variable {K : PySem.W.Frag}
mutual
theorem trv_dy {H : Hp} : ∀ (t : Tr) (v : V), TrV H v t → Dy K H v t.dat
  | .hand n, _, h => by cases h; simp only [Tr.dat]; exact .str n
  | .grp n b ms, _, h => by
    cases h with
    | grp h1 h2 h3 =>
      simp only [Tr.dat]
      exact .tup (st_of h1) (.cons (.str n) (.cons (.int b) (.cons (.tup (st_of h2) (trvs_dy ms _ h3)) .nil)))
theorem trvs_dy {H : Hp} : ∀ (ts : List Tr) (vs : List V), TrVs H vs ts → DyAll K H vs (dats ts)
  | [], _, h => by cases h; simp only [dats]; exact .nil
  | t :: ts, _, h => by
    cases h with
    | cons h1 h2 =>
      simp only [dats]
      exact .cons (trv_dy t _ h1) (trvs_dy ts _ h2)
end
end
theorem name_asc {n : Str} (h : nameOk n) : asc n := fun c hc => by
  have := h.2.2 c hc
  omega
mutual
theorem dat_wt : ∀ (t : Tr), (∀ n ∈ t.nms, nameOk n) → t.ok → wt t.dat ≤ 170 * t.size ∧ nodes t.dat ≤ 4 * t.size ∧ t.dat.depth ≤ 2 * t.deep ∧ okD (2 ^ 27) t.dat
  | .hand n, h, _ => by
    have hn := h n (by simp [Tr.nms])
    have := hn.2.1
    simp only [Tr.dat, Tr.deep, Tr.size, wt, nodes, PyData.depth, okD]
    exact ⟨by omega, by omega, by omega, name_asc hn⟩
  | .grp n b ms, h, ho => by
    have hn := h n (by simp [Tr.nms])
    have := hn.2.1
    simp only [Tr.ok] at ho
    obtain ⟨b1, b2, _, ho⟩ := ho
    obtain ⟨i1, i2, i3, i4⟩ := dats_wt ms (fun m hm => h m (by simp [Tr.nms, hm])) ho
    simp only [Tr.dat, Tr.deep, Tr.size, wt, wts, nodes, nodess, PyData.depth, PyData.depthAll, okD, okDs]
    exact ⟨by omega, by omega, by omega, name_asc hn, by omega, i4, trivial⟩
theorem dats_wt : ∀ (ts : List Tr), (∀ n ∈ nmss ts, nameOk n) → oks ts → wts (dats ts) ≤ 170 * sizes ts ∧ nodess (dats ts) ≤ 4 * sizes ts ∧ PyData.depthAll (dats ts) ≤ 2 * deeps ts ∧ okDs (2 ^ 27) (dats ts)
  | [], _, _ => by simp [dats, wts, nodess, PyData.depthAll, okDs]
  | t :: ts, h, ho => by
    simp only [oks] at ho
    obtain ⟨i1, i2, i3, i4⟩ := dat_wt t (fun m hm => h m (by simp [nmss, hm])) ho.1
    obtain ⟨j1, j2, j3, j4⟩ := dats_wt ts (fun m hm => h m (by simp [nmss, hm])) ho.2
    simp only [dats, wts, nodess, PyData.depthAll, okDs, sizes, deeps]
    exact ⟨by omega, by omega, by omega, i4, j4⟩
end
theorem tk_aside {H : Hp} {h l : Addr} (A : Hand H h l) : TK H (aside H [h, l]) := fun a xs e => by
  obtain ⟨n1, n2⟩ := A.off e (fun _ z => by cases z)
  rw [aside_at (off_hl n1 n2)]
  exact e
theorem tree_dx {K : PySem.W.Frag} {H : Hp} {v : V} {t : Tr} (h : TrV H v t) : Dx K H v t.dat := dx_dp _ _ (trv_dp t v h)
theorem tree_fits {t : Tr} (h : ∀ n ∈ t.nms, nameOk n) (ho : t.ok) (hs : t.size ≤ 200) (hd : t.deep ≤ 12) : shorts t.dat ∧ t.dat.depth ≤ 30 ∧ nodes t.dat ≤ 4000 := by
  obtain ⟨h1, h2, h3, h4⟩ := dat_wt t h ho
  exact ⟨shorts_wt (W := 10000000) (by decide) _ (by omega), by omega, by omega⟩
end NL

/-! enumerate of a tuple -/
namespace NL
open PySem PySem.Spec PyProof.Rows L2 Evl
abbrev tupIt (l : Addr) : Obj := { cls := .type "tuple_iterator", data := .fields #[.ref l, .int 0 0] }
abbrev enumOb (it : Addr) : Obj := { cls := .type "enumerate", data := .fields #[.none, .bool false, .ref it, rawInt 0, .none, .none] }
theorem made_enumT (l : Addr) (its : Array Value) (m : Nat) (dc : Option Addr) (so : Array (Option Value)) :
    Meets (Builtin.«enumerate.__new__» ⟨[.type "enumerate", .ref l], []⟩) (fun _ Rs st => st.heap.get? l = some { cls := .type "tuple", dict := dc, data := .seq its m, slots := so } ∧
      Rs (.ok (.ret (.ref (st.heap.push (tupIt l)).objs.size))) { st with heap := (st.heap.push (tupIt l)).push (enumOb st.heap.objs.size) }) :=
  .of_wp fun pr wd Ar Rs st told => by
    obtain ⟨hp, gn, dr, tk, os⟩ := st
    obtain ⟨at_l, told⟩ := told
    have under := sub_enumerate
    have isT : Heap.IsTuple (Shared.heap ⟨hp, gn, dr, tk, os⟩) l its := ⟨_, at_l, rfl, m, rfl⟩
    wp_walk using AutoSeq1.wpAny_loadPart' at_l
    refine wpAny_stack_any fun _ => wpAny_pure ?_
    split
    · rename_i cl _ _ _ _ _
      cases (cl == Value.type "enumerate")
      all_goals
        wp_walk using AutoSeq1.wpAny_loadPart' at_l, wpAny_pyIter_tuple isT
        exact ⟨_, rfl, told⟩
    · wp_walk using AutoSeq1.wpAny_loadPart' at_l, wpAny_pyIter_tuple isT
      exact ⟨_, rfl, told⟩
section
variable {P : Program} {w : World} {A : Around} {E : Value → Shared → Prop} {s : Shared}
theorem call_enumT {l : Addr} {its : Array Value} {Q : Value → Shared → Prop} (isT : s.heap.IsTuple l its)
    (told : ∀ h2, IsEnum h2 (s.heap.objs.size + 1) s.heap.objs.size 0 .none → h2.IsTupleIter s.heap.objs.size l 0 → (∀ b o, s.heap.get? b = some o → h2.get? b = some o) → Q (.ref (s.heap.objs.size + 1)) { s with heap := h2 }) :
    wpAny (model P w) A (call (.type "enumerate") [.ref l]) Q E s := by
  obtain ⟨⟨cl, dc, dt, so⟩, at_l, ecl, m, edt⟩ := isT
  replace ecl : cl = .type "tuple" := ecl
  replace edt : dt = .seq its m := edt
  subst ecl edt
  refine callType_new F.called_enumerate (by decide) (F.typeCall_enumerate_1 _) (F.newCall_enumerate_1 _) (fun ob => F.args_object_init_2 ob _) F.entry_enumerate_new (made_enumT l its m dc so) ⟨at_l, ?_⟩
  have sz : (s.heap.push (tupIt l)).objs.size = s.heap.objs.size + 1 := Heap.size_push ..
  show _ ∧ _
  rw [sz]
  have en : IsEnum ((s.heap.push (tupIt l)).push (enumOb s.heap.objs.size)) (s.heap.objs.size + 1) s.heap.objs.size 0 .none := by
    have got := Heap.get?_push_size (s.heap.push (tupIt l)) (o := enumOb s.heap.objs.size) rfl
    rw [sz] at got
    exact got
  exact ⟨⟨_, en, rfl⟩, told _ en ⟨_, Heap.get?_push_of_some _ (Heap.get?_push_size _ rfl), rfl, rfl⟩ fun b o q => Heap.get?_push_of_some _ (Heap.get?_push_of_some _ q)⟩
end
section
variable {P : Program} {w : World} {A : Around} {E : Value → Shared → Prop} {s : Shared}
theorem enum_stop {e it a : Addr} {i : Nat} {its : Array Value} {old : Value} {Q : Option Value → Shared → Prop} (calm : A.handled = none) (en : IsEnum s.heap e it i old) (ti : s.heap.IsTupleIter it a i) (isT : s.heap.IsTuple a its) (hx : its[i]? = none)
    (told : ∀ h2, Heap.ExtBut it s.heap h2 → Q none { s with heap := h2 }) : wpAny (model P w) A (pyNext (.ref e)) Q E s := by
  have ty : s.TypeIs (.ref e) "enumerate" := ⟨_, en, rfl⟩
  unfold pyNext
  refine wpAny_bind (wpAny_attempt (wpAny_callSpecial?_slot (name := Str.ofString "__next__") ty F.slot_enumerate_next (wpAny_call_entry F.slot_enumerate_next ty F.entry_enumerate_next ?_ (F.args_enumerate_next_1 _))))
  change wpAny _ _ (field (.ref e) 2 >>= _) _ _ _
  refine wpAny_bind (wpAny_field en rfl (x := .ref it) rfl (wpAny_bind (wpAny_nextOf_tuple_end (by simp [calm]) ti isT hx fun h2 x ext stop => ?_)))
  obtain ⟨o, ho, oc⟩ := stop
  exact wpAny_bind (wpAny_isInstance (T := "StopIteration") (b := true) ⟨o, ho, oc⟩ isSubtype_stop (wpAny_pure (told _ ext)))
end
/-- the tuple at a, each item in a new pair with its number -/
def ItU (K : PySem.W.Frag) (a : Addr) : It :=
  ⟨fun i H => ∃ (xs : List V) (x : V), SqT K H a xs ∧ xs[i]? = some x,
    fun i H v H' => ∃ T x, v = .ref T ∧ H T = none ∧ H' = upd H T (.tup [.int (i : Nat), x]) ∧ ∀ xs, SqT K H a xs → xs[i]? = some x,
    fun i H => ∃ xs : List V, SqT K H a xs ∧ xs.length ≤ i⟩
theorem apart_ty {h : Heap} {a b : Addr} {o u : Obj} (ha : h.get? a = some o) (hb : h.get? b = some u) (ne : o.cls ≠ u.cls) : a ≠ b := fun z => by
  subst z
  rw [ha] at hb
  cases hb
  exact ne rfl
theorem turn_enumT {P : Program} {w : World} {K : PySem.W.Frag} {elts : List Expr} {kk : Nat} {tpos : Pos} (a e it : Addr) :
    Turn P w K (.Tuple elts kk tpos) (ItU K a) [e, it] e (fun i h => (∃ old, IsEnum h e it ((i : Nat) : Int) old) ∧ h.IsTupleIter it a i ∧ e ≠ it) where
  mem := by simp
  obj := fun i h st b hb => by
    obtain ⟨⟨old, en⟩, ⟨o, ho, hc, hd⟩, _⟩ := st
    have two : b = e ∨ b = it := by simpa using hb
    rcases two with rfl | rfl
    · exact ⟨_, en, fun v q => nomatch q⟩
    · exact ⟨o, ho, fun v q => by rw [hd] at q; cases q⟩
  keep := fun i h h2 st k => let ⟨⟨old, en⟩, ti, ne⟩ := st; ⟨⟨old, k e (by simp) _ en⟩, ti.at fun o q => k it (by simp) o q, ne⟩
  item := by
    intro X hP hw hK hc i pins s σ H E I hf st hg
    subst hP hw hK
    obtain ⟨⟨old, en⟩, ti, ne⟩ := st
    obtain ⟨xs, x, hq, hx⟩ := hg
    obtain ⟨its, rv, p, hz⟩ := I.tuple hq
    obtain ⟨u, hu, ru⟩ := rv.get hx
    have le : e < s.heap.objs.size := Heap.lt_size en
    have li : it < s.heap.objs.size := by
      obtain ⟨_, z, _⟩ := ti
      exact Heap.lt_size z
    have isT : s.heap.IsTuple a its.toArray := p
    have ai : a ≠ it := by
      obtain ⟨o1, g1, c1, _⟩ := isT
      obtain ⟨o2, g2, c2, _⟩ := ti
      exact apart_ty g1 g2 (by rw [c1, c2]; decide)
    have ae : e ≠ a := by
      obtain ⟨o1, g1, c1, _⟩ := isT
      exact apart_ty en g1 (by rw [c1]; exact (by decide : Value.type "enumerate" ≠ Value.type "tuple"))
    have lt : i < its.toArray.size := by
      have := (List.getElem?_eq_some_iff.mp hu).1
      simpa using this
    have calm : X.A.handled = none := I.ok.hd hc
    refine wpAny_pyNext_enum_itemD (Draws.tuple (A := X.A.in1) (by simp [calm]) it a ai its.toArray) en ⟨ti, isT⟩ lt ne (by simp [ne, ae]) fun y h2 tk hy ho st2 hT hsz hk => ?_
    have ey : y = u := by
      have h1 : its.toArray[i]? = some u := by simpa using hu
      rw [h1] at hy
      exact (Option.some.inj hy).symm
    subst ey
    refine ⟨_, rfl, wpAny_letOwnedTupleGo_enum (s := { s with heap := h2, toks := tk + 1 }) ho fun h3 en3 sb => ?_⟩
    have at3 : h3.get? s.heap.objs.size = some { cls := .type "tuple", data := .seq #[.int i tk, y] } := (sb.2 _ (Nat.ne_of_gt le)).trans hT
    have made : ObjOk X.prog X.w (upd H s.heap.objs.size (.tup [.int (i : Nat), x])) h3 s.heap.objs.size (.tup [.int (i : Nat), x]) :=
      ⟨by show 2 ≤ sizeLine; decide, [.int i tk, y], .cons ⟨_, rfl⟩ (.cons ru .nil), ⟨_, at3, rfl, _, rfl⟩⟩
    have I1 : Inv X pins σ (upd H s.heap.objs.size (.tup [.int (i : Nat), x])) { s with heap := h3, toks := tk + 1 } :=
      I.turnedNew (ch := [e, it]) (fun b ob hb q => (sb.2 b (fun z => hb (by simp [z]))).trans (hk b ob (fun z => hb (by simp [z])) (fun z => hb (by simp [z])) q)) hf (Nat.le_refl _) made
    refine ⟨.ref s.heap.objs.size, _, I1, rfl, ⟨_, x, rfl, I.hok.fresh (Nat.le_refl _), rfl, fun ys hy => by rw [I.tuple_inj hy hq]; exact hx⟩, ⟨⟨y, ?_⟩, st2.1.at fun o q => (sb.2 it (Ne.symm ne)).trans q, ne⟩, fun b hb => ?_⟩
    · have e1 : ((i + 1 : Nat) : Int) = (i : Int) + 1 := by omega
      rw [e1]
      exact en3
    · have two : b = e ∨ b = it := by simpa using hb
      have lb : b < s.heap.objs.size := by
        rcases two with rfl | rfl
        · exact le
        · exact li
      rw [upd_ne (Nat.ne_of_lt lb)]
      exact (hf b hb).1
  done := by
    intro X hP hw hK hc i pins s σ H E I hf st hg
    subst hP hw hK
    obtain ⟨⟨old, en⟩, ti, ne⟩ := st
    obtain ⟨xs, hq, hx⟩ := hg
    obtain ⟨its, rv, p, hz⟩ := I.tuple hq
    obtain ⟨f0, f1, f2, f3, f4, f5⟩ := hf it (by simp)
    have many := rv.length
    have isT : s.heap.IsTuple a its.toArray := p
    have ai : a ≠ it := by
      obtain ⟨o1, g1, c1, _⟩ := isT
      obtain ⟨o2, g2, c2, _⟩ := ti
      exact apart_ty g1 g2 (by rw [c1, c2]; decide)
    have calm : X.A.handled = none := I.ok.hd hc
    exact enum_stop (calm := calm) en ti isT (by simp; omega) fun h2 eb => ⟨rfl, I.turned (t' := s.toks) (fun b o hb q => eb b o hb q) f0 f1 f3 f4 f5⟩
  self := fun A i s Q E st h => let ⟨⟨_, en⟩, _⟩ := st; wpAny_pyIter_enum en h
def iEnumT (K : PySem.W.Frag) (ta : TA) : TI := fun σ H R => ta σ H fun vs H1 => ∃ a xs, vs = [.ref a] ∧ SqT K H1 a xs ∧ R (ItU K a) H1
theorem pi_enumT {X : Cx} {e : Expr} {ta : TA} {p pos tpos : Pos} {elts : List Expr} {kk : Nat} (hg : Gl X "enumerate") (hm : X.mg "enumerate" = none) (ha : PA X [e] ta) (hs : starEach [e] X.env = [(false, eval e X.env)] := by rfl) :
    PI X (.Tuple elts kk tpos) (.Call (.Name "enumerate" p) [e] [] pos) (iEnumT X.K ta) := by
  constructor
  intro pins s σ H R I told
  refine Call_ (ld_blt I hg hm boot_enumerate (PyProof.Rows.callWith_type1 (thn (ha.run pos pins s σ H _ I told) fun us s1 got => ?_) hs rfl))
  obtain ⟨vs, H1, I1, r1, a, xs, ex, hq, q⟩ := got
  subst ex
  obtain ⟨u, eu, ru⟩ := vals1 r1
  subst eu
  cases ru
  obtain ⟨its, rv, p', hz⟩ := I1.tuple hq
  refine call_enumT (its := its.toArray) p' fun h2 en ti hk => wpAny_pyIter_enum en ?_
  have I2 : Inv X pins σ H1 { s1 with heap := h2 } := I1.kept (t' := s1.toks) hk
  refine ⟨s1.heap.objs.size + 1, [s1.heap.objs.size + 1, s1.heap.objs.size], _, _, H1, rfl, I2, turn_enumT a (s1.heap.objs.size + 1) s1.heap.objs.size, ⟨⟨.none, en⟩, ti, Nat.succ_ne_self _⟩, fun b hb => ?_, q⟩
  have two : b = s1.heap.objs.size + 1 ∨ b = s1.heap.objs.size := by simpa using hb
  have ge : s1.heap.objs.size ≤ b := by
    rcases two with rfl | rfl
    · exact Nat.le_succ _
    · exact Nat.le_refl _
  exact I1.fpOk ge (I1.hok.fresh ge)
theorem pi_enumTK {X : Cx} {K : PySem.W.Frag} (h : X.K = K) {e : Expr} {ta : TA} {p pos tpos : Pos} {elts : List Expr} {kk : Nat} (hg : Gl X "enumerate") (hm : X.mg "enumerate" = none) (ha : PA X [e] ta) (hs : starEach [e] X.env = [(false, eval e X.env)] := by rfl) :
    PI X (.Tuple elts kk tpos) (.Call (.Name "enumerate" p) [e] [] pos) (iEnumT K ta) := by subst h; exact pi_enumT hg hm ha hs
theorem walk_enumT {K : PySem.W.Frag} {a : Addr} {xs : List V} : Walk (ItU K a) xs.length (fun H => SqT K H a xs) (fun i H v H' => ∃ T x, v = .ref T ∧ H T = none ∧ H' = upd H T (.tup [.int (i : Nat), x]) ∧ xs[i]? = some x) where
  goes := fun i H lt g => ⟨xs, xs[i], g, List.getElem?_eq_getElem lt⟩
  stops := fun H g => ⟨xs, g, Nat.le_refl _⟩
  yields := fun i H x H' lt g y => by
    obtain ⟨T, z, h1, h2, h3, h4⟩ := y
    exact ⟨T, z, h1, h2, h3, h4 xs g⟩
end NL

/-! terms that make some datum and change nothing that is there; some addresses set aside -/
namespace NL
open PySem PySem.Spec PyProof.Rows L2 Evl
def Sin (S : List Addr) (H : Hp) : Prop := ∀ a ∈ S, H a ≠ none
theorem Sin.ex {S : List Addr} {H H' : Hp} (s : Sin S H) (e : Ex H H') : Sin S H' := fun a ha z => by
  cases h : H a with
  | none => exact s a ha h
  | some o =>
    rw [e a o h] at z
    cases z
theorem Sin.off {S : List Addr} {H : Hp} {p : Addr} (s : Sin S H) (hp : H p = none) : p ∉ S := fun h => s p h hp
theorem Sin.cons {S : List Addr} {H H' : Hp} {p : Addr} {o : HO} (s : Sin S H) (e : Ex H H') (hp : H' p = some o) : Sin (p :: S) H' := fun a ha => by
  rcases List.mem_cons.mp ha with rfl | ha
  · rw [hp]
    exact fun z => by cases z
  · exact s.ex e a ha
theorem aside_new {S : List Addr} {H : Hp} {p : Addr} {o : HO} (s : Sin S H) (hp : H p = none) : aside (upd H p o) S p = some o := by
  rw [aside_at (s.off hp)]
  exact upd_same
section
variable {K : PySem.W.Frag} {S : List Addr} {σ : L2.St} {H H' : Hp} {te tb : TE} {ta : TA} {W N D B W' N' D' B' n m : Nat}
def PV (K : PySem.W.Frag) (S : List Addr) (W N D B : Nat) (te : TE) (σ : L2.St) (H : Hp) : Prop := ∀ H1, Ex H H1 → ∀ Q : VK, (∀ v H2, Ex H1 H2 → G K (aside H2 S) v W N D B → Q v H2) → te σ H1 Q
def PAs (K : PySem.W.Frag) (S : List Addr) (n W N D B : Nat) (ta : TA) (σ : L2.St) (H : Hp) : Prop := ∀ H1, Ex H H1 → ∀ Q : List V → Hp → Prop, (∀ vs H2, Ex H1 H2 → vs.length = n → (∀ v ∈ vs, G K (aside H2 S) v W N D B) → Q vs H2) → ta σ H1 Q
def PTp (K : PySem.W.Frag) (S : List Addr) (W N D B : Nat) (te : TE) (σ : L2.St) (H : Hp) : Prop := ∀ H1, Ex H H1 → ∀ Q : VK, (∀ p xs H2, Ex H1 H2 → SqT K (aside H2 S) p xs → GL K (aside H2 S) xs W N D B → Q (.ref p) H2) → te σ H1 Q
/-- a list of at most n of them -/
def PLs (K : PySem.W.Frag) (S : List Addr) (n W N D B : Nat) (te : TE) (σ : L2.St) (H : Hp) : Prop := ∀ H1, Ex H H1 → ∀ Q : VK, (∀ p xs H2, Ex H1 H2 → H2 p = some (.lst xs) → p ∉ S → xs.length ≤ n → (∀ v ∈ xs, G K (aside H2 (p :: S)) v W N D B) → Q (.ref p) H2) → te σ H1 Q
/-- a new one -/
def PLn (K : PySem.W.Frag) (S : List Addr) (n W N D B : Nat) (te : TE) (σ : L2.St) (H : Hp) : Prop := ∀ H1, Ex H H1 → ∀ Q : VK, (∀ p xs H2, H1 p = none → Ex H1 H2 → H2 p = some (.lst xs) → p ∉ S → xs.length ≤ n → (∀ v ∈ xs, G K (aside H2 (p :: S)) v W N D B) → Q (.ref p) H2) → te σ H1 Q
theorem PLn.ls (g : PLn K S n W N D B te σ H) : PLs K S n W N D B te σ H := fun H1 e Q q => g H1 e Q fun p xs H2 _ => q p xs H2
theorem PV.mono (g : PV K S W N D B te σ H) (e : Ex H H') : PV K S W N D B te σ H' := fun H1 e1 Q q => g H1 (e.trans e1) Q q
theorem PV.up (g : PV K S W N D B te σ H) (hW : W ≤ W') (hN : N ≤ N') (hD : D ≤ D') (hB : B ≤ B') : PV K S W' N' D' B' te σ H := fun H1 e Q q => g H1 e Q fun v H2 e2 g2 => q v H2 e2 (g2.up hW hN hD hB)
theorem PTp.up (g : PTp K S W N D B te σ H) (hW : W ≤ W') (hN : N ≤ N') (hD : D ≤ D') (hB : B ≤ B') : PTp K S W' N' D' B' te σ H := fun H1 e Q q => g H1 e Q fun p xs H2 e2 s g2 => q p xs H2 e2 s (g2.up hW hN hD hB)
theorem PLs.up (g : PLs K S n W N D B te σ H) (hn : n ≤ m) (hW : W ≤ W') (hN : N ≤ N') (hD : D ≤ D') (hB : B ≤ B') : PLs K S m W' N' D' B' te σ H := fun H1 e Q q => g H1 e Q fun p xs H2 e2 h off l g2 => q p xs H2 e2 h off (by omega) fun v hv => (g2 v hv).up hW hN hD hB
theorem g_ex {v : V} (g : G K (aside H S) v W N D B) (e : Ex H H') : G K (aside H' S) v W N D B := g.mono (aside_e e)
theorem gl_ex {xs : List V} (g : GL K (aside H S) xs W N D B) (e : Ex H H') : GL K (aside H' S) xs W N D B := g.mono (aside_e e)
theorem t_ex {p : Addr} {xs : List V} (g : SqT K (aside H S) p xs) (e : Ex H H') : SqT K (aside H' S) p xs := ex_t (aside_e e) g
theorem pv_ev {v : V} (h : Ev te σ H v) (g : G K (aside H S) v W N D B) : PV K S W N D B te σ H := fun H1 e Q q => h H1 e Q fun H2 e2 => q v H2 e2 (g_ex g (e.trans e2))
theorem pv_var {i : Nat} {v : V} (e : σ[i]? = some (some v)) (g : G K (aside H S) v W N D B) : PV K S W N D B (tVar i) σ H := pv_ev (ev_var e) g
theorem pv_non (hW : 10 ≤ W) (hN : 1 ≤ N) : PV K S W N D B (tC .non) σ H := pv_ev ev_c ((G.non).up hW hN (Nat.zero_le _) (Nat.le_refl _))
theorem pv_bl {b : Bool} (hW : 10 ≤ W) (hN : 1 ≤ N) : PV K S W N D B (tC (.bl b)) σ H := pv_ev ev_c ((G.bl b).up hW hN (Nat.zero_le _) (Nat.le_refl _))
theorem pv_int {i : Int} (h : Ev te σ H (.int i)) (hi : i.natAbs ≤ B) (hW : 60 ≤ W) (hN : 1 ≤ N) : PV K S W N D B te σ H := pv_ev h ((G.int hi).up hW hN (Nat.zero_le _) (Nat.le_refl _))
theorem pv_str {z : Str} (h : Ev te σ H (.str z)) (az : asc z) (hW : 10 * z.length + 10 ≤ W) (hN : 1 ≤ N) : PV K S W N D B te σ H := pv_ev h ((G.str (n := 10 * z.length + 10) (Nat.le_refl _) az).up hW hN (Nat.zero_le _) (Nat.le_refl _))
theorem pv_lit {s : String} (ha : (s.toList.all fun c => decide (c.toNat < 128)) = true) (hl : s.length ≤ 50) (hW : 600 ≤ W) (hN : 1 ≤ N) : PV K S W N D B (tC (.str (Str.ofString s))) σ H := pv_str ev_c (asc_lit ha) (by rw [PySem.ofString_length]; omega) hN
theorem pas_nil : PAs K S 0 W N D B tNil σ H := fun H1 _ Q q => q [] H1 (Ex.refl H1) rfl (fun v z => by cases z)
theorem pas_cons (g : PV K S W N D B te σ H) (r : PAs K S n W N D B ta σ H) : PAs K S (n + 1) W N D B (tCons te ta) σ H := fun H1 e Q q =>
  g H1 e _ fun v H2 e2 g2 => r H2 (e.trans e2) _ fun vs H3 e3 hl hv => q (v :: vs) H3 (e2.trans e3) (by rw [List.length_cons, hl]) fun u hu => by
    rcases List.mem_cons.mp hu with rfl | hu
    · exact g_ex g2 e3
    · exact hv u hu
theorem pt_new (g : PAs K S n W N D B ta σ H) (hn : n ≤ 1000) (s : Sin S H) : PTp K S (n * W) (n * N) D B (tTup ta) σ H := fun H1 e Q q =>
  g H1 e _ fun vs H2 e2 hl hv => ⟨sz_of (by omega), fun p hp => by
    refine q p vs _ (e2.trans (Ex.new hp)) (st_of (aside_new (s.ex (e.trans e2)) hp)) ?_
    rw [← hl]
    exact gl_ex (gl_all hv) (Ex.new hp)⟩
theorem pv_pt (g : PTp K S W N D B te σ H) : PV K S (W + 10) (N + 1) (D + 1) B te σ H := fun H1 e Q q => g H1 e Q fun p xs H2 e2 s g2 => q _ H2 e2 (G.tup s g2)
theorem pv_t (g : PAs K S n W N D B ta σ H) (hn : n ≤ 1000) (s : Sin S H) (hW : n * W + 10 ≤ W') (hN : n * N + 1 ≤ N') (hD : D + 1 ≤ D') : PV K S W' N' D' B (tTup ta) σ H := (pv_pt (pt_new g hn s)).up hW hN hD (Nat.le_refl _)
theorem pv_three {i1 i2 i3 W1 W2 W3 N1 N2 N3 : Nat} {x1 x2 x3 : V} (s : Sin S H) (h1 : σ[i1]? = some (some x1)) (h2 : σ[i2]? = some (some x2)) (h3 : σ[i3]? = some (some x3)) (g1 : G K (aside H S) x1 W1 N1 D B) (g2 : G K (aside H S) x2 W2 N2 D B) (g3 : G K (aside H S) x3 W3 N3 D B)
    (hW : W1 + (W2 + (W3 + 0)) + 10 ≤ W') (hN : N1 + (N2 + (N3 + 0)) + 1 ≤ N') : PV K S W' N' (D + 1) B (tTup (tCons (tVar i1) (tCons (tVar i2) (tCons (tVar i3) tNil)))) σ H := fun H1 e Q q =>
  ⟨_, h1, _, h2, _, h3, sz_of (by simp), fun p hp => q _ _ (Ex.new hp) ((G.tup (st_of (aside_new (s.ex e) hp)) (GL.cons (g_ex g1 (e.trans (Ex.new hp))) (GL.cons (g_ex g2 (e.trans (Ex.new hp))) (GL.cons (g_ex g3 (e.trans (Ex.new hp))) (GL.nil (W := 0) (N := 0)))))).up hW hN (Nat.le_refl _) (Nat.le_refl _))⟩
theorem pt_ev {p : Addr} {xs : List V} (h : Ev te σ H (.ref p)) (s : SqT K (aside H S) p xs) (g : GL K (aside H S) xs W N D B) : PTp K S W N D B te σ H := fun H1 e Q q => h H1 e _ fun H2 e2 => q p xs H2 e2 (t_ex s (e.trans e2)) (gl_ex g (e.trans e2))
theorem pt_var {i : Nat} {p : Addr} {xs : List V} (e : σ[i]? = some (some (.ref p))) (s : SqT K (aside H S) p xs) (g : GL K (aside H S) xs W N D B) : PTp K S W N D B (tVar i) σ H := pt_ev (ev_var e) s g
theorem pt_cat (ga : PTp K S W N D B te σ H) (gb : PTp K S W' N' D B tb σ H) (hz : W + W' ≤ 1000000) (s : Sin S H) : PTp K S (W + W') (N + N') D B (tOp (rCatA K) te tb) σ H := fun H1 e Q q =>
  ga H1 e _ fun p xs H2 e2 s2 g2 => gb H2 (e.trans e2) _ fun p' ys H3 e3 s3 g3 => by
    have s2' := t_ex s2 e3
    have g2' := gl_ex g2 e3
    have l2 := g2'.len
    have l3 := g3.len
    refine ⟨p, p', xs, ys, rfl, rfl, ex_t (aside_sub _ _) s2', ex_t (aside_sub _ _) s3, sz_of (by omega), fun z => ?_, fun _ z => ?_, fun _ _ r hr => ?_⟩
    · exact q p' ys H3 (e2.trans e3) s3 (g3.up (by omega) (by omega) (Nat.le_refl _) (Nat.le_refl _))
    · exact q p xs H3 (e2.trans e3) s2' (g2'.up (by omega) (by omega) (Nat.le_refl _) (Nat.le_refl _))
    · exact q r _ _ ((e2.trans e3).trans (Ex.new hr)) (st_of (aside_new (s.ex ((e.trans e2).trans e3)) hr)) (gl_ex (g2'.app g3) (Ex.new hr))
theorem pt_sl {lo hi : Option Int} {tl th : TO} (g : PTp K S W N D B te σ H) (hl : EvO tl σ H lo) (hh : EvO th σ H hi) (s : Sin S H) : PTp K S W N D B (tSl (rSlA K) te tl th) σ H := fun H1 e Q q =>
  g H1 e _ fun p xs H2 e2 s2 g2 => hl H2 (e.trans e2) _ fun H3 e3 => hh H3 ((e.trans e2).trans e3) _ fun H4 e4 => by
    have s4 := t_ex s2 (e3.trans e4)
    have g4 := gl_ex g2 (e3.trans e4)
    refine ⟨p, xs, rfl, ex_t (aside_sub _ _) s4, fun _ => q p xs H4 ((e2.trans e3).trans e4) s4 g4, fun _ r hr => ?_⟩
    exact q r _ _ (((e2.trans e3).trans e4).trans (Ex.new hr)) (st_of (aside_new (s.ex (((e.trans e2).trans e3).trans e4)) hr)) (gl_ex (g4.cut lo hi) (Ex.new hr))
theorem pt_rev (g : PTp K S W N D B te σ H) (s : Sin S H) : PTp K S W N D B (tRevT K te) σ H := fun H1 e Q q =>
  g H1 e _ fun p xs H2 e2 s2 g2 => ⟨p, xs, rfl, ex_t (aside_sub _ _) s2, fun r hr => q r _ _ (e2.trans (Ex.new hr)) (st_of (aside_new (s.ex (e.trans e2)) hr)) (gl_ex g2.rev (Ex.new hr))⟩
theorem pv_listT (g : PTp K S W N D B te σ H) (s : Sin S H) : PV K S (W + 10) (N + 1) (D + 1) B (tCB (rListT K) (tCons te tNil)) σ H := fun H1 e Q q =>
  g H1 e _ fun p xs H2 e2 s2 g2 => ⟨p, xs, rfl, Or.inr (ex_t (aside_sub _ _) s2), fun r hr => q _ _ (e2.trans (Ex.new hr)) (G.lst (aside_new (s.ex (e.trans e2)) hr) (gl_ex g2 (Ex.new hr)))⟩
theorem pl_lst (g : PAs K S n W N D B ta σ H) (hn : n ≤ 1000) (s : Sin S H) : PLn K S n W N D B (tLst ta) σ H := fun H1 e Q q =>
  g H1 e _ fun vs H2 e2 hl hv => ⟨sz_of (by omega), fun p hp => q p vs _ (fresh_back e2 hp) (e2.trans (Ex.new hp)) upd_same ((s.ex (e.trans e2)).off hp) (by omega) fun v z => (hv v z).mono (aside_more hp (Ex.new hp))⟩
theorem pl_var {i : Nat} {p : Addr} {xs : List V} (e : σ[i]? = some (some (.ref p))) (hp : H p = some (.lst xs)) (off : p ∉ S) (hl : xs.length ≤ n) (g : ∀ v ∈ xs, G K (aside H (p :: S)) v W N D B) : PLs K S n W N D B (tVar i) σ H := fun H1 e1 Q q =>
  ⟨_, e, q p xs H1 (Ex.refl H1) (e1 _ _ hp) off hl fun v z => g_ex (g v z) e1⟩
theorem pl_cat (ga : PLs K S n W N D B te σ H) (gb : PLs K S m W N D B tb σ H) (hz : n + m ≤ 50000) (s : Sin S H) : PLn K S (n + m) W N D B (tOp rCat te tb) σ H := fun H1 e Q q =>
  ga H1 e _ fun p vs H2 e2 h2 _ l2 g2 => gb H2 (e.trans e2) _ fun p' us H3 e3 h3 _ l3 g3 => ⟨p, p', vs, us, rfl, rfl, e3 _ _ h2, h3, sz_of (by omega), fun r hr => by
    refine q r _ _ (fresh_back (e2.trans e3) hr) ((e2.trans e3).trans (Ex.new hr)) upd_same ((s.ex ((e.trans e2).trans e3)).off hr) (by rw [List.length_append]; omega) fun v z => ?_
    rcases List.mem_append.mp z with z | z
    · exact ((g_ex (g2 v z) e3).mono aside_less).mono (aside_more hr (Ex.new hr))
    · exact ((g3 v z).mono aside_less).mono (aside_more hr (Ex.new hr))⟩
/-- what a comprehension's list has by now -/
def LcW (K : PySem.W.Frag) (S : List Addr) (H : Hp) (d : Addr) (W N D B : Nat) (i : Nat) (H' : Hp) : Prop := Ex H H' ∧ ∃ vs, H' d = some (.lst vs) ∧ vs.length = i ∧ ∀ v ∈ vs, G K (aside H' (d :: S)) v W N D B
theorem lcw_turn {d : Addr} {i : Nat} {σ2 : L2.St} (hd : H d = none) (w : LcW K S H d W N D B i H') (hi : i < 90000) (g : PV K (d :: S) W N D B te σ2 H') : tYes σ2 H' fun b H3 => if b = true then te σ2 H3 fun y H4 => ∃ acc, H4 d = some (.lst acc) ∧ acc.length < sizeLine ∧ LcW K S H d W N D B (i + 1) (upd H4 d (.lst (acc ++ [y]))) else LcW K S H d W N D B (i + 1) H3 := by
  obtain ⟨e, vs, hv, hl, hg⟩ := w
  refine tYesQ (g H' (Ex.refl H') _ fun y H4 e4 gy => ⟨vs, e4 _ _ hv, sz_lt (by omega), Ex.mut (e.trans e4) hd, _, upd_same, by rw [List.length_append, hl]; rfl, fun v z => ?_⟩)
  have same : Ex (aside H4 (d :: S)) (aside (upd H4 d (.lst (vs ++ [y]))) (d :: S)) := aside_ex fun a o ha h => by
    have hne : a ≠ d := fun z => ha (by rw [z]; exact List.mem_cons_self ..)
    rw [upd_ne hne]
    exact h
  rcases List.mem_append.mp z with z | z
  · exact ((hg v z).mono (aside_e e4)).mono same
  · rw [List.mem_singleton.mp z]
    exact gy.mono same
theorem pl_lcT {tl : TE} {j : Nat} {vs : List Nat} (src : PTp K S W N D B tl σ H) (hW : W ≤ 100000) (clean : ∀ x, wipe ((wipe σ vs).set j (some x)) vs = wipe σ vs)
    (each : ∀ (d : Addr) (x : V) H1, Ex H H1 → Sin S H1 → (∃ o, H1 d = some o) → d ∉ S → Ex (aside H S) (aside H1 (d :: S)) → G K (aside H1 (d :: S)) x W N D B → PV K (d :: S) W' N' D' B' te ((wipe σ vs).set j (some x)) H1) (s : Sin S H) :
    PLn K S (W / 10) W' N' D' B' (tLc (iTup K tl) (gName j) tYes te vs) σ H := fun H1 e Q q =>
  src H1 e _ fun p xs H2 e2 sp gx => ⟨p, rfl, ⟨xs, ex_t (aside_sub _ _) sp⟩, fun d hd => by
    have len := gx.len
    have e02 := e.trans e2
    refine lc_tup (xs := xs) (LcW K S H2 d W' N' D' B') ⟨Ex.new hd, [], upd_same, rfl, fun v z => by cases z⟩ (fun i H' _ w => ex_t w.1 (ex_t (aside_sub _ _) sp)) (fun i x H' hx w => ?_) (fun H' w => ?_)
    · have hi := (List.getElem?_eq_some_iff.mp hx).1
      obtain ⟨o, ho⟩ : ∃ o, H' d = some o := by
        obtain ⟨_, ws, h, _⟩ := w
        exact ⟨_, h⟩
      have more : Ex (aside H2 S) (aside H' (d :: S)) := aside_more hd w.1
      exact ⟨clean x, lcw_turn hd w (by omega) (each d x H' (e02.trans w.1) (s.ex (e02.trans w.1)) ⟨o, ho⟩ ((s.ex e02).off hd) ((aside_e e02).trans more) ((gx.get (List.mem_of_getElem? hx)).mono more))⟩
    · obtain ⟨e3, ws, h, hl, hg⟩ := w
      exact q d ws H' (fresh_back e2 hd) (e2.trans e3) h ((s.ex e02).off hd) (by omega) fun v z => hg v z⟩
theorem pl_lcL {tl : TE} {j : Nat} {vs : List Nat} (src : PLs K S n W N D B tl σ H) (hn : n ≤ 50000) (clean : ∀ x, wipe ((wipe σ vs).set j (some x)) vs = wipe σ vs)
    (each : ∀ (d : Addr) (x : V) H1, Ex H H1 → Sin S H1 → (∃ o, H1 d = some o) → d ∉ S → Ex (aside H S) (aside H1 (d :: S)) → G K (aside H1 (d :: S)) x W N D B → PV K (d :: S) W' N' D' B' te ((wipe σ vs).set j (some x)) H1) (s : Sin S H) :
    PLn K S n W' N' D' B' (tLc (iList K tl) (gName j) tYes te vs) σ H := fun H1 e Q q =>
  src H1 e _ fun p xs H2 e2 hp off hl gx => ⟨p, rfl, ⟨xs, sq_of hp⟩, fun d hd => by
    have e02 := e.trans e2
    refine lc_list (xs := xs) (LcW K S H2 d W' N' D' B') ⟨Ex.new hd, [], upd_same, rfl, fun v z => by cases z⟩ (fun i H' _ w => sq_of (w.1 _ _ hp)) (fun i x H' hx w => ?_) (fun H' w => ?_)
    · have hi := (List.getElem?_eq_some_iff.mp hx).1
      obtain ⟨o, ho⟩ : ∃ o, H' d = some o := by
        obtain ⟨_, ws, h, _⟩ := w
        exact ⟨_, h⟩
      have more : Ex (aside H2 S) (aside H' (d :: S)) := aside_more hd w.1
      exact ⟨clean x, lcw_turn hd w (by omega) (each d x H' (e02.trans w.1) (s.ex (e02.trans w.1)) ⟨o, ho⟩ ((s.ex e02).off hd) ((aside_e e02).trans more) (((gx x (List.mem_of_getElem? hx)).mono aside_less).mono more))⟩
    · obtain ⟨e3, ws, h, hl3, hg⟩ := w
      exact q d ws H' (fresh_back e2 hd) (e2.trans e3) h ((s.ex e02).off hd) (by omega) fun v z => hg v z⟩
theorem q_forP {tl : TE} {j : Nat} {tu tz : TS} {De : Ends} (src : PTp K S W N D B tl σ H) (go : ∀ p xs H1, Ex H H1 → SqT K (aside H1 S) p xs → GL K (aside H1 S) xs W N D B → ∃ Pv : Nat → L2.St → Hp → Prop, Pv 0 σ H1 ∧ (∀ i σ' H', i ≤ xs.length → Pv i σ' H' → SqT K H' p xs) ∧
    (∀ i x σ' H', xs[i]? = some x → Pv i σ' H' → tu { De with nx := Pv (i + 1), ct := Pv (i + 1), bk := tz De } (σ'.set j (some x)) H') ∧ ∀ σ' H', Pv xs.length σ' H' → tz De σ' H') : tSeq (tFor (iTup K tl) (gName j) tu) tz De σ H :=
  src H (Ex.refl H) _ fun p xs H1 e s g => by
    obtain ⟨Pv, h0, hl, hs, hd⟩ := go p xs H1 e s g
    exact ⟨p, rfl, ⟨xs, ex_t (aside_sub _ _) s⟩, for_tup Pv h0 hl hs hd⟩
theorem q_asgLs {i : Nat} {tz : TS} {De : Ends} (src : PLn K S n W N D B te σ H) (k : ∀ p xs H1, H p = none → Ex H H1 → H1 p = some (.lst xs) → p ∉ S → xs.length ≤ n → (∀ v ∈ xs, G K (aside H1 (p :: S)) v W N D B) → tz De (σ.set i (some (.ref p))) H1) : tSeq (tAsg te (gName i)) tz De σ H := src H (Ex.refl H) _ fun p xs H1 hn e h1 off hl hg => k p xs H1 hn e h1 off hl hg
theorem s_retLs {De : Ends} (src : PLn K S n W N D B te σ H) (k : ∀ p xs H1, Ex H H1 → H1 p = some (.lst xs) → p ∉ S → xs.length ≤ n → (∀ v ∈ xs, G K (aside H1 (p :: S)) v W N D B) → De.rt (.ref p) H1) : tRet te De σ H := src H (Ex.refl H) _ fun p xs H1 _ e h1 off hl hg => k p xs H1 e h1 off hl hg
/-- for one in (..): found.append(..) -/
theorem q_forApp {tl : TE} {j i : Nat} {tz : TS} {De : Ends} {pf : Addr} {ys : List V} {c0 : Option V} {S0 : List Addr} (hj : σ[j]? = some c0) (src : PTp K (pf :: S0) W N D B tl σ H) (hW : W ≤ 200000) (hp : H pf = some (.lst ys)) (hys : ys.length ≤ 10000) (gys : ∀ y ∈ ys, G K (aside H (pf :: S0)) y W' N' D' B') (hi : ∀ x, (σ.set j (some x))[i]? = some (some (.ref pf)))
    (each : ∀ x H', (∀ c o, c ≠ pf → H c = some o → H' c = some o) → (∃ zs, H' pf = some (.lst zs)) → G K (aside H' (pf :: S0)) x W N D B → PV K (pf :: S0) W' N' D' B' te (σ.set j (some x)) H')
    (tail : ∀ c H' zs, (∀ c o, c ≠ pf → H c = some o → H' c = some o) → H' pf = some (.lst zs) → zs.length ≤ ys.length + W / 10 → (∀ z ∈ zs, G K (aside H' (pf :: S0)) z W' N' D' B') → tz De (σ.set j c) H') : tSeq (tFor (iTup K tl) (gName j) (tDrop (tBM K "list" rAppend (tVar i) (tCons te tNil)))) tz De σ H := by
  refine q_forP src fun tp zs H5 e5 stp gzs => ?_
  have zl := gzs.len
  have stay : ∀ {H'}, (∀ c o, c ≠ pf → H5 c = some o → H' c = some o) → Ex (aside H5 (pf :: S0)) (aside H' (pf :: S0)) := fun k => aside_ex fun c o hc e => k c o (fun z => hc (by rw [z]; exact List.mem_cons_self ..)) e
  have back : ∀ {H' : Hp}, (∀ c o, c ≠ pf → H5 c = some o → H' c = some o) → ∀ c o, c ≠ pf → H c = some o → H' c = some o := fun k c o hc e => k c o hc (e5 c o e)
  refine ⟨fun n σ' H' => (∀ c o, c ≠ pf → H5 c = some o → H' c = some o) ∧ ∃ us c, H' pf = some (.lst us) ∧ us.length = ys.length + n ∧ (∀ u ∈ us, G K (aside H' (pf :: S0)) u W' N' D' B') ∧ σ' = σ.set j c, ?_, ?_, ?_, ?_⟩
  · refine ⟨fun c o _ e => e, ys, c0, e5 _ _ hp, rfl, fun u hu => g_ex (gys u hu) e5, ?_⟩
    refine (List.ext_getElem? fun k => ?_)
    rw [List.getElem?_set]
    split
    · rename_i h
      subst h
      split
      · exact hj
      · rename_i h2
        rw [List.getElem?_eq_none (by omega)] at hj
        cases hj
    · rfl
  · intro n σ' H6 _ hP
    exact ex_t (aside_sub _ _) (ex_t (stay hP.1) stp)
  · intro n x σ' H6 hx hP
    obtain ⟨k6, us, c, hu, ul, ug, rfl⟩ := hP
    have hn := (List.getElem?_eq_some_iff.mp hx).1
    rw [List.set_set]
    refine ⟨.ref pf, hi x, Or.inl ⟨rfl, us, sq_of hu⟩, ?_⟩
    refine (each x H6 (back k6) ⟨us, hu⟩ ((gzs.get (List.mem_of_getElem? hx)).mono (stay k6))) H6 (Ex.refl H6) _ fun y H7 e7 gy => ?_
    refine ⟨pf, us, y, rfl, rfl, e7 _ _ hu, sz_lt (by omega), fun c o hc e => by rw [upd_ne hc]; exact e7 _ _ (k6 c o hc e), us ++ [y], _, upd_same, by rw [List.length_append]; simp only [List.length_singleton]; omega, fun u hm => ?_, rfl⟩
    have same : Ex (aside H7 (pf :: S0)) (aside (upd H7 pf (.lst (us ++ [y]))) (pf :: S0)) := aside_ex fun c o hc e => by
      have hne : c ≠ pf := fun z => hc (by rw [z]; exact List.mem_cons_self ..)
      rw [upd_ne hne]
      exact e
    rcases List.mem_append.mp hm with hm | hm
    · exact ((ug u hm).mono (aside_e e7)).mono same
    · rw [List.mem_singleton.mp hm]
      exact gy.mono same
  · intro σ' H6 hP
    obtain ⟨k6, us, c, hu, ul, ug, rfl⟩ := hP
    exact tail c H6 us (back k6) hu (by omega) ug
theorem catS {a b : Addr} {xs ys : List V} {Q : VK} (s : Sin S H) (sa : SqT K (aside H S) a xs) (sb : SqT K (aside H S) b ys) (hz : xs.length + ys.length ≤ 100000) (q : ∀ r H', Ex H H' → SqT K (aside H' S) r (xs ++ ys) → Q (.ref r) H') : rCatA K (.ref a) (.ref b) H Q := by
  refine ⟨a, b, xs, ys, rfl, rfl, ex_t (aside_sub _ _) sa, ex_t (aside_sub _ _) sb, sz_of hz, fun z => ?_, fun _ z => ?_, fun _ _ r hr => ?_⟩
  · subst z
    exact q b H (Ex.refl H) sb
  · subst z
    rw [List.append_nil] at q
    exact q a H (Ex.refl H) sa
  · exact q r _ (Ex.new hr) (st_of (aside_new s hr))
theorem slS {a : Addr} {xs : List V} {Q : VK} {lo hi : Option Int} (s : Sin S H) (sa : SqT K (aside H S) a xs) (q : ∀ r H', Ex H H' → SqT K (aside H' S) r (cutV xs lo hi) → Q (.ref r) H') : rSlA K (.ref a) lo hi H Q := by
  refine ⟨a, xs, rfl, ex_t (aside_sub _ _) sa, fun z => ?_, fun _ r hr => q r _ (Ex.new hr) (st_of (aside_new s hr))⟩
  have e : cutV xs lo hi = xs := by
    unfold cutV
    rw [z.1, z.2]
    simp
  rw [e] at q
  exact q a H (Ex.refl H) sa
end
theorem dats_get : ∀ {ms : List Tr} {i : Nat} {m : Tr}, ms[i]? = some m → (dats ms)[i]? = some m.dat
  | [], _, _, h => by simp at h
  | t :: ts, 0, m, h => by simp at h; subst h; simp [dats]
  | t :: ts, i + 1, m, h => by
    have := dats_get (ms := ts) (i := i) (m := m) (by simpa using h)
    simpa [dats] using this
theorem dats_len : ∀ ms : List Tr, (dats ms).length = ms.length
  | [] => rfl
  | t :: ts => by simp [dats, dats_len ts]
end NL

/-! the box that draws: a list of three numbers; a box of names: a dict of three -/
namespace NL
open PySem L2 Evl
structure BxAt (H : Hp) (h : Addr) (n m c : Int) (C : Nat) : Prop where
  hh : H h = some (.lst [.int n, .int m, .int c])
  n0 : 0 ≤ n
  m0 : 0 ≤ m
  m1 : m < 2 ^ 100
  c0 : 0 ≤ c
  c1 : c ≤ C
def Bx (H : Hp) (h : Addr) (C : Nat) : Prop := ∃ n m c, BxAt H h n m c C
theorem BxAt.ex {H H' : Hp} {h : Addr} {n m c : Int} {C : Nat} (A : BxAt H h n m c C) (e : Ex H H') : BxAt H' h n m c C := ⟨e _ _ A.hh, A.n0, A.m0, A.m1, A.c0, A.c1⟩
theorem Bx.ex {H H' : Hp} {h : Addr} {C : Nat} (A : Bx H h C) (e : Ex H H') : Bx H' h C := by
  obtain ⟨n, m, c, A⟩ := A
  exact ⟨n, m, c, A.ex e⟩
theorem Bx.up {H : Hp} {h : Addr} {C C' : Nat} (A : Bx H h C) (hC : C ≤ C') : Bx H h C' := by
  obtain ⟨n, m, c, A⟩ := A
  exact ⟨n, m, c, A.hh, A.n0, A.m0, A.m1, A.c0, by have := A.c1; omega⟩
theorem Bx.fresh {H : Hp} {h p : Addr} {C : Nat} (A : Bx H h C) (n : H p = none) : p ≠ h := by
  obtain ⟨_, _, _, A⟩ := A
  intro e
  subst e
  rw [A.hh] at n
  cases n
theorem Bx.new {H : Hp} {h p : Addr} {o : HO} {C : Nat} (A : Bx H h C) (n : H p = none) : Bx (upd H p o) h C := A.ex (Ex.new n)
theorem Bx.sin {H : Hp} {h : Addr} {C : Nat} (A : Bx H h C) : Sin [h] H := by
  obtain ⟨_, _, _, A⟩ := A
  intro a ha
  rw [List.mem_singleton.mp ha, A.hh]
  exact fun z => by cases z
theorem ev_abs {σ : L2.St} {H : Hp} {te : TE} {i : Int} (h : Ev te σ H (.int i)) : Ev (tCB (fun xs H Q => ∃ i, xs = [.int i] ∧ Q (.int (if i < 0 then -i else i)) H) (tCons te tNil)) σ H (.int (if i < 0 then -i else i)) := ev_cb (ea_cons h ea_nil) fun H1 e Q q => ⟨i, rfl, q H1 (Ex.refl H1)⟩
theorem ev_intB {σ : L2.St} {H : Hp} {te : TE} {b : Bool} (h : Ev te σ H (.bl b)) : Ev (tCB (fun xs H Q => (∃ i, xs = [.int i] ∧ Q (.int i) H) ∨ ∃ k, xs = [.bl k] ∧ Q (.int (if k then 1 else 0)) H) (tCons te tNil)) σ H (.int (if b then 1 else 0)) := ev_cb (ea_cons h ea_nil) fun H1 e Q q => Or.inr ⟨b, rfl, q H1 (Ex.refl H1)⟩
theorem kp_mut {h : Addr} {H H' : Hp} {p : Addr} {o : HO} (k : Kp h h H H') (n : H p = none) : Kp h h H (upd H' p o) := fun a u n1 n2 e => by
  have : a ≠ p := fun z => by
    subst z
    rw [n] at e
    cases e
  rw [upd_ne this]
  exact k a u n1 n2 e
theorem ex_kp {H H1 H' : Hp} {h : Addr} (e : Ex H H1) (n : H h = none) (k : Kp h h H1 H') : Ex H H' := fun a o ha => by
  have : a ≠ h := fun z => by
    subst z
    rw [n] at ha
    cases ha
  exact k a o this this (e _ _ ha)
/-! ### names by a dict: which is next, the first, how far from one to the next -/
def NB (H : Hp) (bx : Addr) (k : Nat) (f b : Int) : Prop := H bx = some (.dK [(Sum.inr (Str.ofString "next"), .int (k : Int)), (Sum.inr (Str.ofString "first"), .int f), (Sum.inr (Str.ofString "by"), .int b)])
def nmL (f b : Int) (j : Nat) : Str := ⟨#[97 + ((f + b * (j : Int)) % 26).toNat]⟩
theorem nmL_ok (f b : Int) (j : Nat) : nameOk (nmL f b j) := by
  refine ⟨?_, ?_, fun c hc => ?_⟩
  · show 1 ≤ 1
    decide
  · show 1 ≤ 8
    decide
  · have : c = 97 + ((f + b * (j : Int)) % 26).toNat := by simpa [nmL] using hc
    omega
def byOk (b : Int) : Prop := b = 1 ∨ b = 3 ∨ b = 5 ∨ b = 7 ∨ b = 9 ∨ b = 11 ∨ b = 25
theorem nmL_ne {f b : Int} (h : byOk b) {i j : Nat} (hi : i < j) (hj : j < i + 26) : nmL f b i ≠ nmL f b j := by
  intro e
  have e2 : ((f + b * (i : Int)) % 26).toNat = ((f + b * (j : Int)) % 26).toNat := by
    have := congrArg (fun s : Str => s.cps.toList) e
    simp [nmL] at this
    exact this
  rcases h with rfl | rfl | rfl | rfl | rfl | rfl | rfl <;> omega
theorem NB.ex {H H' : Hp} {bx : Addr} {k : Nat} {f b : Int} (n : NB H bx k f b) (e : Ex H H') : NB H' bx k f b := e _ _ n
theorem NB.kp {H H' : Hp} {bx h : Addr} {k : Nat} {f b : Int} (n : NB H bx k f b) (ne : bx ≠ h) (e : Kp h h H H') : NB H' bx k f b := e _ _ ne ne n
theorem Bx.kp {H H' : Hp} {bx h : Addr} {C : Nat} (A : Bx H h C) (ne : h ≠ bx) (e : Kp bx bx H H') : Bx H' h C := by
  obtain ⟨n, m, c, A⟩ := A
  exact ⟨n, m, c, e _ _ ne ne A.hh, A.n0, A.m0, A.m1, A.c0, A.c1⟩
theorem kp_l {H H' : Hp} {h l : Addr} (k : Kp h h H H') : Kp h l H H' := fun a o n _ e => k a o n n e
theorem kp_r {H H' : Hp} {h l : Addr} (k : Kp l l H H') : Kp h l H H' := fun a o _ m e => k a o m m e
theorem Bx.ne {H : Hp} {h bx : Addr} {C k : Nat} {f b : Int} (A : Bx H h C) (n : NB H bx k f b) : h ≠ bx := fun z => by
  obtain ⟨_, _, _, A⟩ := A
  subst z
  have := A.hh.symm.trans n
  cases this
/-- tuples stay where these two are a list and a dict -/
theorem tk_kp2 {H H' : Hp} {h bx : Addr} {C k : Nat} {f b : Int} (A : Bx H h C) (n : NB H bx k f b) (e : Kp h bx H H') : TK H H' := fun a xs ha => e a _ (fun z => by
  obtain ⟨_, _, _, A⟩ := A
  subst z
  rw [A.hh] at ha
  cases ha) (fun z => by
  subst z
  have := n.symm.trans ha
  cases this) ha
theorem tk_nb {H H' : Hp} {bx : Addr} {k : Nat} {f b : Int} (n : NB H bx k f b) (e : Kp bx bx H H') : TK H H' := fun a xs ha => by
  have : a ≠ bx := fun z => by
    subst z
    have := n.symm.trans ha
    cases this
  exact e a _ this this ha
theorem tk_bx {H H' : Hp} {h : Addr} {C : Nat} (A : Bx H h C) (e : Kp h h H H') : TK H H' := fun a xs ha => by
  obtain ⟨_, _, _, A⟩ := A
  have : a ≠ h := fun z => by
    subst z
    rw [A.hh] at ha
    cases ha
  exact e a _ this this ha
theorem fresh_kp {H H1 : Hp} {h bx D : Addr} (k : Kp h bx H H1) (dh : D ≠ h) (db : D ≠ bx) (hD : H1 D = none) : H D = none := by
  cases z : H D with
  | none => rfl
  | some o => rw [k D o dh db z] at hD; cases hD
theorem NB.fresh {H : Hp} {bx p : Addr} {k : Nat} {f b : Int} (n : NB H bx k f b) (hp : H p = none) : p ≠ bx := fun z => by
  subst z
  have := n.symm.trans hp
  cases this
/-! ### names of groups -/
mutual
def Tr.gn : Tr → List Str
  | .hand _ => []
  | .grp n _ ms => n :: gns ms
def gns : List Tr → List Str
  | [] => []
  | t :: ts => t.gn ++ gns ts
end
theorem mem_gns : ∀ {ts : List Tr} {x : Str}, x ∈ gns ts → ∃ t ∈ ts, x ∈ t.gn
  | t :: ts, x, h => by
    simp only [gns] at h
    rcases List.mem_append.mp h with h | h
    · exact ⟨t, List.mem_cons_self .., h⟩
    · obtain ⟨u, hu, hx⟩ := mem_gns h
      exact ⟨u, List.mem_cons_of_mem _ hu, hx⟩
theorem mem_nmss : ∀ {ts : List Tr} {x : Str}, x ∈ nmss ts → ∃ t ∈ ts, x ∈ t.nms
  | t :: ts, x, h => by
    simp only [nmss] at h
    rcases List.mem_append.mp h with h | h
    · exact ⟨t, List.mem_cons_self .., h⟩
    · obtain ⟨u, hu, hx⟩ := mem_nmss h
      exact ⟨u, List.mem_cons_of_mem _ hu, hx⟩
theorem oks_of : ∀ {ts : List Tr}, (∀ t ∈ ts, t.ok) → oks ts
  | [], _ => trivial
  | t :: ts, h => ⟨h t (List.mem_cons_self ..), oks_of fun u hu => h u (List.mem_cons_of_mem _ hu)⟩
theorem deeps_of {d : Nat} : ∀ {ts : List Tr}, (∀ t ∈ ts, t.deep ≤ d) → deeps ts ≤ d
  | [], _ => Nat.zero_le _
  | t :: ts, h => by
    simp only [deeps]
    exact Nat.max_le.mpr ⟨h t (List.mem_cons_self ..), deeps_of fun u hu => h u (List.mem_cons_of_mem _ hu)⟩
/-- a tree whose groups have names between these -/
structure GM (f b : Int) (lo hi d : Nat) (t : Tr) : Prop where
  ok : t.ok
  dp : t.deep ≤ d
  nm : ∀ x ∈ t.nms, nameOk x
  gn : ∀ x ∈ t.gn, ∃ j, lo < j ∧ j ≤ hi ∧ x = nmL f b j
theorem GM.up {f b : Int} {lo hi lo' hi' d d' : Nat} {t : Tr} (g : GM f b lo hi d t) (h1 : lo' ≤ lo) (h2 : hi ≤ hi') (h3 : d ≤ d') : GM f b lo' hi' d' t := ⟨g.ok, Nat.le_trans g.dp h3, g.nm, fun x hx => by
  obtain ⟨j, a, c, e⟩ := g.gn x hx
  exact ⟨j, by omega, by omega, e⟩⟩
theorem GM.hand {f b : Int} {lo hi d : Nat} {x : Str} (h : nameOk x) : GM f b lo hi d (.hand x) := ⟨trivial, Nat.zero_le _, fun y hy => by
  simp only [Tr.nms] at hy
  rw [List.mem_singleton.mp hy]
  exact h, fun y hy => by cases hy⟩
def GMs (f b : Int) (lo hi d : Nat) (ts : List Tr) : Prop := (∀ t ∈ ts, GM f b lo hi d t) ∧ sizes ts + lo ≤ hi
theorem GMs.grp {f b : Int} {lo lo' hi d j : Nat} {ms : List Tr} {c : Int} (g : GMs f b lo hi d ms) (hn : ms ≠ []) (c1 : 1 ≤ c) (c2 : c ≤ 99999999) (j1 : lo' < j) (j2 : j ≤ hi) (hl : lo' ≤ lo) : GM f b lo' hi (d + 1) (.grp (nmL f b j) c ms) where
  ok := ⟨c1, c2, hn, oks_of fun t ht => (g.1 t ht).ok⟩
  dp := by
    simp only [Tr.deep]
    have := deeps_of fun t ht => (g.1 t ht).dp
    omega
  nm := fun x hx => by
    simp only [Tr.nms] at hx
    rcases List.mem_cons.mp hx with rfl | hx
    · exact nmL_ok f b j
    · obtain ⟨t, ht, hx⟩ := mem_nmss hx
      exact (g.1 t ht).nm x hx
  gn := fun x hx => by
    simp only [Tr.gn] at hx
    rcases List.mem_cons.mp hx with rfl | hx
    · exact ⟨j, j1, j2, rfl⟩
    · obtain ⟨t, ht, hx⟩ := mem_gns hx
      obtain ⟨i, a1, a2, a3⟩ := (g.1 t ht).gn x hx
      exact ⟨i, by omega, a2, a3⟩
theorem GMs.ins {f b : Int} {lo mid hi d : Nat} {a c : List Tr} {t : Tr} (g : GMs f b lo mid d (a ++ c)) (gt : GM f b mid hi d t) (hs : t.size + mid ≤ hi) (hm : lo ≤ mid) : GMs f b lo hi d (a ++ [t] ++ c) := by
  have hs2 := g.2
  rw [sizes_app] at hs2
  refine ⟨fun u hu => ?_, ?_⟩
  · have h : u ∈ a ∨ u = t ∨ u ∈ c := by
      rcases List.mem_append.mp hu with hu | hu
      · rcases List.mem_append.mp hu with hu | hu
        · exact .inl hu
        · exact .inr (.inl (List.mem_singleton.mp hu))
      · exact .inr (.inr hu)
    rcases h with h | rfl | h
    · exact (g.1 u (List.mem_append_left _ h)).up (Nat.le_refl _) (by omega) (Nat.le_refl _)
    · exact gt.up hm (Nat.le_refl _) (Nat.le_refl _)
    · exact (g.1 u (List.mem_append_right _ h)).up (Nat.le_refl _) (by omega) (Nat.le_refl _)
  · rw [sizes_app, sizes_app]
    simp only [sizes]
    omega
theorem GMs.up {f b : Int} {lo hi hi' d d' : Nat} {ts : List Tr} (g : GMs f b lo hi d ts) (h2 : hi ≤ hi') (h3 : d ≤ d') : GMs f b lo hi' d' ts := ⟨fun t ht => (g.1 t ht).up (Nat.le_refl _) h2 h3, Nat.le_trans g.2 h2⟩
theorem GMs.app {f b : Int} {lo mid hi d : Nat} {a : List Tr} {t : Tr} (g : GMs f b lo mid d a) (gt : GM f b mid hi d t) (hs : t.size + mid ≤ hi) (hm : lo ≤ mid) : GMs f b lo hi d (a ++ [t]) := by
  have := GMs.ins (a := a) (c := []) (by rw [List.append_nil]; exact g) gt hs hm
  rw [List.append_nil] at this
  exact this
theorem trvs_ins {H : Hp} {xs : List V} {ts : List Tr} {v : V} {t : Tr} {i : Nat} (h : TrVs H xs ts) (hv : TrV H v t) : TrVs H (xs.take i ++ [v] ++ xs.drop i) (ts.take i ++ [t] ++ ts.drop i) := by
  have tk : ∀ {xs : List V} {ts : List Tr} (i : Nat), TrVs H xs ts → TrVs H (xs.take i) (ts.take i) := by
    intro xs ts i h
    induction i generalizing xs ts with
    | zero => simp; exact .nil
    | succ i ih =>
      cases h with
      | nil => exact .nil
      | cons a r => exact .cons a (ih r)
  have dr : ∀ {xs : List V} {ts : List Tr} (i : Nat), TrVs H xs ts → TrVs H (xs.drop i) (ts.drop i) := by
    intro xs ts i h
    induction i generalizing xs ts with
    | zero => exact h
    | succ i ih =>
      cases h with
      | nil => exact .nil
      | cons a r => exact ih r
  exact trvs_app (trvs_app (tk i h) (.cons hv .nil)) (dr i h)
end NL

/-! data of tuples alone: they stay whatever becomes of lists -/
namespace NL
open PySem L2 Evl
mutual
def tupOnly : PyData → Bool
  | .none => true
  | .bool _ => true
  | .int _ => true
  | .str _ => true
  | .tuple ds => tupOnlys ds
  | _ => false
def tupOnlys : List PyData → Bool
  | [] => true
  | d :: ds => tupOnly d && tupOnlys ds
end
def ST (K : PySem.W.Frag) (H H' : Hp) : Prop := ∀ a xs, SqT K H a xs → SqT K H' a xs
theorem ST.refl {K : PySem.W.Frag} (H : Hp) : ST K H H := fun _ _ h => h
theorem ST.trans {K : PySem.W.Frag} {H H1 H2 : Hp} (a : ST K H H1) (b : ST K H1 H2) : ST K H H2 := fun x y h => b x y (a x y h)
theorem ST.ex {K : PySem.W.Frag} {H H' : Hp} (e : Ex H H') : ST K H H' := fun _ _ h => ex_t e h
theorem ST.lst {K : PySem.W.Frag} {H : Hp} {p : Addr} {ys : List V} {o : HO} (h : H p = some (.lst ys)) : ST K H (upd H p o) := fun a xs s => by
  rcases s with (z | ⟨ob, z⟩) | z
  · refine Or.inl (Or.inl ?_)
    rw [upd_ne (fun y => by subst y; rw [h] at z; cases z)]
    exact z
  · refine Or.inl (Or.inr ⟨ob, ?_⟩)
    rw [upd_ne (fun y => by subst y; rw [h] at z; cases z)]
    exact z
  · exact Or.inr z
theorem ST.bx {K : PySem.W.Frag} {H H' : Hp} {h : Addr} {C : Nat} (A : Bx H h C) (k : Kp h h H H') : ST K H H' := fun a xs s => by
  obtain ⟨_, _, _, B⟩ := A
  rcases s with (z | ⟨ob, z⟩) | z
  · have : a ≠ h := fun y => by subst y; rw [B.hh] at z; cases z
    exact Or.inl (Or.inl (k _ _ this this z))
  · have : a ≠ h := fun y => by subst y; rw [B.hh] at z; cases z
    exact Or.inl (Or.inr ⟨ob, k _ _ this this z⟩)
  · exact Or.inr z
mutual
theorem dy_st {K : PySem.W.Frag} {H H' : Hp} (s : ST K H H') : ∀ (d : PyData) (v : V), tupOnly d = true → Dy K H v d → Dy K H' v d
  | .none, _, _, h => by cases h; exact .non
  | .bool b, _, _, h => by cases h; exact .bl b
  | .int i, _, _, h => by cases h; exact .int i
  | .str x, _, _, h => by cases h; exact .str x
  | .tuple ds, _, t, h => by
    cases h with
    | tup hs ha =>
      simp only [tupOnly] at t
      exact .tup (s _ _ hs) (dya_st s ds _ t ha)
  | .list ds, _, t, _ => by simp [tupOnly] at t
  | .dict ds, _, t, _ => by simp [tupOnly] at t
theorem dya_st {K : PySem.W.Frag} {H H' : Hp} (s : ST K H H') : ∀ (ds : List PyData) (vs : List V), tupOnlys ds = true → DyAll K H vs ds → DyAll K H' vs ds
  | [], _, _, h => by cases h; exact .nil
  | d :: ds, _, t, h => by
    cases h with
    | cons a b =>
      simp only [tupOnlys, Bool.and_eq_true] at t
      exact .cons (dy_st s d _ t.1 a) (dya_st s ds _ t.2 b)
end
/-- a datum of tuples alone, small -/
structure TD (K : PySem.W.Frag) (H : Hp) (W N D : Nat) (v : V) (d : PyData) : Prop where
  dy : Dy K H v d
  to : tupOnly d = true
  wt : wt d ≤ W
  nd : nodes d ≤ N
  dp : d.depth ≤ D
  ok : okD 1000 d
theorem TD.st {K : PySem.W.Frag} {H H' : Hp} {W N D : Nat} {v : V} {d : PyData} (t : TD K H W N D v d) (s : ST K H H') : TD K H' W N D v d := ⟨dy_st s d v t.to t.dy, t.to, t.wt, t.nd, t.dp, t.ok⟩
theorem TD.up {K : PySem.W.Frag} {H : Hp} {W N D W' N' D' : Nat} {v : V} {d : PyData} (t : TD K H W N D v d) (h1 : W ≤ W') (h2 : N ≤ N') (h3 : D ≤ D') : TD K H W' N' D' v d := ⟨t.dy, t.to, Nat.le_trans t.wt h1, Nat.le_trans t.nd h2, Nat.le_trans t.dp h3, t.ok⟩
inductive TDs (K : PySem.W.Frag) (H : Hp) (W N D : Nat) : List V → List PyData → Prop
  | nil : TDs K H W N D [] []
  | cons {v : V} {vs : List V} {d : PyData} {ds : List PyData} : TD K H W N D v d → TDs K H W N D vs ds → TDs K H W N D (v :: vs) (d :: ds)
theorem TDs.st {K : PySem.W.Frag} {H H' : Hp} {W N D : Nat} (s : ST K H H') : ∀ {vs : List V} {ds : List PyData}, TDs K H W N D vs ds → TDs K H' W N D vs ds
  | _, _, .nil => .nil
  | _, _, .cons a b => .cons (a.st s) (b.st s)
theorem TDs.one {K : PySem.W.Frag} {H : Hp} {W N D : Nat} {v : V} {d : PyData} (t : TD K H W N D v d) : ∀ {vs : List V} {ds : List PyData}, TDs K H W N D vs ds → TDs K H W N D (vs ++ [v]) (ds ++ [d])
  | _, _, .nil => .cons t .nil
  | _, _, .cons a b => .cons a (b.one t)
theorem TDs.len {K : PySem.W.Frag} {H : Hp} {W N D : Nat} : ∀ {vs : List V} {ds : List PyData}, TDs K H W N D vs ds → vs.length = ds.length
  | _, _, .nil => rfl
  | _, _, .cons _ b => by rw [List.length_cons, List.length_cons, b.len]
theorem TDs.all {K : PySem.W.Frag} {H : Hp} {W N D : Nat} : ∀ {vs : List V} {ds : List PyData}, TDs K H W N D vs ds → DyAll K H vs ds ∧ tupOnlys ds = true ∧ wts ds ≤ ds.length * W ∧ nodess ds ≤ ds.length * N ∧ PyData.depthAll ds ≤ D ∧ okDs 1000 ds
  | _, _, .nil => ⟨.nil, rfl, by simp [wts], by simp [nodess], by simp [PyData.depthAll], by simp [okDs]⟩
  | _, _, .cons (ds := ds) a b => by
    obtain ⟨b1, b2, b3, b4, b5, b6⟩ := b.all
    refine ⟨.cons a.dy b1, by simp only [tupOnlys, a.to, b2]; rfl, ?_, ?_, ?_, ?_⟩
    · have := a.wt
      simp only [wts, List.length_cons, Nat.succ_mul]
      omega
    · have := a.nd
      simp only [nodess, List.length_cons, Nat.succ_mul]
      omega
    · have := a.dp
      simp only [PyData.depthAll]
      omega
    · simp only [okDs]
      exact ⟨a.ok, b6⟩
/-- a tuple of such ones -/
theorem TDs.tup {K : PySem.W.Frag} {H : Hp} {W N D n : Nat} {a : Addr} {vs : List V} {ds : List PyData} (t : TDs K H W N D vs ds) (hs : SqT K H a vs) (hn : ds.length ≤ n) : TD K H (n * W + 10) (n * N + 1) (D + 1) (.ref a) (.tuple ds) := by
  obtain ⟨b1, b2, b3, b4, b5, b6⟩ := t.all
  have h1 := Nat.mul_le_mul_right W hn
  have h2 := Nat.mul_le_mul_right N hn
  refine ⟨.tup hs b1, by simp only [tupOnly]; exact b2, ?_, ?_, ?_, ?_⟩
  · simp only [NL.wt]
    omega
  · simp only [nodes]
    omega
  · simp only [PyData.depth]
    omega
  · simp only [okD]
    exact b6
theorem td_non {K : PySem.W.Frag} {H : Hp} {D : Nat} : TD K H 100 1 D .non .none := ⟨.non, rfl, by simp [wt], by simp [nodes], by simp [PyData.depth], by simp [okD]⟩
theorem td_int {K : PySem.W.Frag} {H : Hp} {D : Nat} {i : Int} (h : i.natAbs ≤ 1000) : TD K H 100 1 D (.int i) (.int i) := ⟨.int i, rfl, by simp [wt], by simp [nodes], by simp [PyData.depth], by simp only [okD]; exact h⟩
theorem td_str {K : PySem.W.Frag} {H : Hp} {D : Nat} {z : Str} (h : asc z) (hl : z.length ≤ 9) : TD K H 100 1 D (.str z) (.str z) := ⟨.str z, rfl, by simp only [wt]; omega, by simp [nodes], by simp [PyData.depth], by simp only [okD]; exact h⟩
theorem td_lit {K : PySem.W.Frag} {H : Hp} {D : Nat} {s : String} (ha : (s.toList.all fun c => decide (c.toNat < 128)) = true) (hl : s.length ≤ 9) : TD K H 100 1 D (.str (Str.ofString s)) (.str (Str.ofString s)) := td_str (asc_lit ha) (by rw [PySem.ofString_length]; exact hl)
end NL

/-! a list set aside while a def is called: it stays, and nothing new leads to it -/
namespace NL
open PySem PySem.Spec PyProof.Rows L2 Evl
theorem ObjOk.over {P : Program} {w : World} {H H' : Hp} {h : Heap} (k : ∀ x u, H x = some u → (∀ zs, u ≠ .lst zs) → H' x = some u) : ∀ {o : HO} {a : Addr}, ObjOk P w H h a o → ObjOk P w H' h a o
  | .lst _, _, x => x
  | .tup _, _, x => x
  | .dK _, _, x => x
  | .dT kvs, a, x => by
    obtain ⟨h1, h2, xs, h3, h4⟩ := x
    exact ⟨h1, h2, xs, Paired.mapP h3 (fun p q r => ⟨r.1, k _ _ r.2.1 (fun zs z => by cases z), r.2.2⟩), h4⟩
  | .set _ _, _, x => x
  | .ins C dx fs, a, x => ⟨k _ _ x.1 (fun zs z => by cases z), x.2⟩
  | .own _, _, x => x
  | .xd _, _, x => x
  | .rng _ _, _, x => x
  | .frz o u, a, x => ⟨x.1, ObjOk.over k (o := u) x.2⟩
  | .tbl _, _, x => x
  | .met _ _, _, x => x
  | .ext _, _, x => x
def framed (sp : Sp) : Sp := fun vs H Q E => ∃ (q : Addr) (zs : List V), H q = some (.lst zs) ∧ sp vs (aside H [q]) (fun v H' => H' q = none → Q v (upd H' q (.lst zs))) E
section
variable {P : Program} {w : World} {K : PySem.W.Frag} {mg : Str → Option Value} {base : Heap} {k : Nat} {f : Addr} {fd : FuncData} {ps : List Str} {sp : Sp}
theorem aside_none {H : Hp} {S : List Addr} {b : Addr} (h : H b = none) : aside H S b = none := by
  by_cases hb : b ∈ S
  · exact aside_in hb
  · rw [aside_at hb]
    exact h
theorem env_less {A : Around} {outer : List Env} {s : Shared} {H : Hp} {q : Addr} {zs : List V} (e : Env0 P w K mg base A outer s H) (hq : H q = some (.lst zs)) : Env0 P w K mg base A outer s (aside H [q]) := by
  refine ⟨e.frames, e.mod, fun b o hb => ⟨(e.bs b o hb).1, aside_none (e.bs b o hb).2⟩, e.bsz, e.funs, fun b hb => aside_none (e.frf b hb), fun a o ha => ?_, e.bare⟩
  have hne : a ∉ [q] := fun z => by
    rw [aside_in z] at ha
    cases ha
  rw [aside_at hne] at ha
  refine ObjOk.over (fun x u hx nl => ?_) (e.hok a o ha)
  have hxq : x ∉ [q] := fun z => by
    rw [List.mem_singleton.mp z, hq] at hx
    cases hx
    exact nl _ rfl
  rw [aside_at hxq]
  exact hx
theorem end_more {outer : List Env} {H : Hp} {s s' : Shared} {q : Addr} {zs : List V} {Q : VK} {u : Value} (hok : HOk P w H s.heap) (frf : ∀ b ∈ frs outer, H b = none) (hq : H q = some (.lst zs)) (c : CE outer P w (aside H [q]) s (fun v H' => H' q = none → Q v (upd H' q (.lst zs))) u s') : CE outer P w H s Q u s' := by
  obtain ⟨v, H', os, bare, un, hok', ru, fin⟩ := c
  have okq := hok q _ hq
  obtain ⟨len, its, n, rv, at_q⟩ := okq
  have nq : aside H [q] q = none := aside_in (List.mem_singleton.mpr rfl)
  have free : H' q = none := un.free q _ at_q nq (by simp)
  have offq : q ∉ frs outer := fun z => by
    rw [frf q z] at hq
    cases hq
  have ne : ∀ {b : Addr} {o : HO}, H b = none ∨ (H b = some o ∧ ∀ zs, o ≠ .lst zs) → b ≠ q := fun h z => by
    subst z
    rcases h with h | ⟨h, nl⟩
    · rw [hq] at h
      cases h
    · rw [hq] at h
      cases h
      exact nl _ rfl
  have at_ne : ∀ {b : Addr}, b ≠ q → aside H [q] b = H b := fun h => aside_at (by simpa using h)
  refine ⟨v, upd H' q (.lst zs), os, bare, ⟨fun b o hb hn hf hx => un.keep b o hb (aside_none hn) hf hx, fun b o hb hn hf hx => un.slot b o hb (aside_none hn) hf hx, fun b o hb hn hx => ?_, un.there, fun b xs hb => ?_, fun b o y hb => ?_, fun b p hb => ?_⟩, fun a o ha => ?_, ru, fin free⟩
  · rw [upd_ne (ne (o := .lst []) (Or.inl hn))]
    exact un.free b o hb (aside_none hn) hx
  · have hne := ne (Or.inr ⟨hb, fun zs z => by cases z⟩)
    rw [upd_ne hne]
    exact un.tups b xs (by rw [at_ne hne]; exact hb)
  · have hne := ne (Or.inr ⟨hb, fun zs z => by cases z⟩)
    rw [upd_ne hne]
    exact un.frzs b o y (by rw [at_ne hne]; exact hb)
  · have hne := ne (Or.inr ⟨hb, fun zs z => by cases z⟩)
    rw [upd_ne hne]
    exact un.tbls b p (by rw [at_ne hne]; exact hb)
  · by_cases hne : a = q
    · subst hne
      rw [upd_same] at ha
      cases ha
      exact ⟨len, its, n, rv, un.keep a _ at_q nq offq (by simp)⟩
    · rw [upd_ne hne] at ha
      exact ObjOk.over (fun x u hx _ => (Ex.new free) x u hx) (hok' a o ha)
theorem FnG.frame (F : FnG P w K mg base k f fd ps sp) : FnG P w K mg base k f fd ps (framed sp) := by
  refine ⟨fun xs H Q E h => ?_, fun A envs s H ar vals xs Q E quiet room env binds rel told => ?_⟩
  · obtain ⟨q, zs, _, h⟩ := h
    exact F.arity _ _ _ _ h
  obtain ⟨q, zs, hq, told⟩ := told
  refine codeAny_mono (F.go A envs s (aside H [q]) ar vals xs _ E quiet room (env_less env hq) binds rel told) fun r s' out => ?_
  match r, out with
  | .error _, out => exact out.elim
  | .ok .next, out => exact out.elim
  | .ok .brk, out => exact out.elim
  | .ok .cont, out => exact out.elim
  | .ok (.ret u), out => exact end_more env.hok env.frf hq out
theorem FnOk.frame (F : FnOk P w K mg base CX0 k f fd ps sp) : FnOk P w K mg base CX0 k f fd ps (framed sp) := by
  refine ⟨fun xs H Q E h => ?_, fun A envs s H ar vals xs Q E room env binds rel told => ?_⟩
  · obtain ⟨q, zs, _, h⟩ := h
    exact F.len _ _ _ _ h
  obtain ⟨q, zs, hq, told⟩ := told
  refine codeAny_mono (F.run A envs s (aside H [q]) ar vals xs _ E room (env_less env hq) binds rel told) fun r s' out => ?_
  match r, out with
  | .error _, out => exact out.elim
  | .ok .next, out => exact out.elim
  | .ok .brk, out => exact out.elim
  | .ok .cont, out => exact out.elim
  | .ok (.ret u), out => exact end_more env.hok env.frf hq out
end
/-! ### what stays of the hand, and of data, across such a call -/
section
variable {K : PySem.W.Frag} {H H' : Hp} {h l q : Addr} {zs : List V}
theorem hand_less (A : Hand H h l) (n1 : q ≠ h) (n2 : q ≠ l) : Hand (aside H [q]) h l := by
  obtain ⟨cs, sd, A⟩ := A
  exact ⟨cs, sd, by rw [aside_at (by simpa using Ne.symm n1)]; exact A.hh, by rw [aside_at (by simpa using Ne.symm n2)]; exact A.hl, A.lo, A.hi, A.few, A.pos⟩
theorem kp_back (hq : H q = some (.lst zs)) (k : Kp h l (aside H [q]) H') : Kp h l H (upd H' q (.lst zs)) := fun a o n m e => by
  by_cases z : a = q
  · subst z
    rw [upd_same, ← hq, e]
  · rw [upd_ne z]
    exact k a o n m (by rw [aside_at (by simpa using z)]; exact e)
theorem aside_back (free : H' q = none) : Ex (aside H' [h, l]) (aside (upd H' q (.lst zs)) [q, h, l]) := fun a o e => by
  have hn : a ∉ [h, l] := fun z => by
    rw [aside_in z] at e
    cases e
  rw [aside_at hn] at e
  have hq : a ≠ q := fun z => by
    subst z
    rw [free] at e
    cases e
  rw [aside_at (by simp only [List.mem_cons, not_or] at hn ⊢; exact ⟨hq, hn⟩), upd_ne hq]
  exact e
theorem aside_two : Ex (aside H [q, h, l]) (aside (aside H [q]) [h, l]) := fun a o e => by
  have hn : a ∉ [q, h, l] := fun z => by
    rw [aside_in z] at e
    cases e
  rw [aside_at hn] at e
  simp only [List.mem_cons, List.not_mem_nil, or_false, not_or] at hn
  rw [aside_at (by simp [hn.2.1, hn.2.2]), aside_at (by simp [hn.1])]
  exact e
end
end NL

/-! sorted of a tuple of texts -/
namespace NL
open PySem PySem.Spec PyProof.Rows L2 Evl
section
variable {P : Program} {w : World} {A : Around} {E : Value → Shared → Prop} {s : Shared}
abbrev noneList : Obj := seqObj "list" #[] 0
abbrev heldAll (h : Heap) (us : List Value) : Heap := (h.push noneList).update h.objs.size (Obj.mapSeq (· ++ us.toArray))
theorem gather_tuple {l : Addr} {us : List Value} {Q : List Value → Shared → Prop} (isT : s.heap.IsTuple l us.toArray) (told : Q us { s with heap := heldAll s.heap us }) (few : us.length ≤ sizeLine) :
    wpAny (model P w) A (collect (.ref l)) Q E s := by
  obtain ⟨ob, at_l, oc, m, od⟩ := isT
  unfold collect
  refine wpAny_bind (wpAny_runValue (codeAny_builtin entry_proto_collect' ?_))
  change wpAny _ _ (do again (.builtin "list.__iadd__" ⟨[← newList [], .ref l], []⟩)) _ _ s
  refine wpAny_bind (wpAny_newList (wpAny_pure ⟨Code.quiet_builtin _ (by decide +kernel), codeAny_builtin entry_list_iadd' ?_⟩))
  change wpAny _ _ (Builtin.List.listExtendWith (.ref s.heap.objs.size) (.ref l) (.ref s.heap.objs.size)) _ _ { s with heap := s.heap.push noneList }
  unfold Builtin.List.listExtendWith
  have at2 : (s.heap.push noneList).get? l = some ob := Heap.get?_push_of_some _ at_l
  refine wpAny_bind (wpAny_typeOf (T := "tuple") ⟨ob, at2, oc⟩ ?_)
  have ty : (Value.type "tuple" == Value.type "tuple") = true := by rfl
  rw [if_pos (by rw [ty]; simp)]
  refine wpAny_bind (listItems_at at2 od (wpAny_bind (listItems_at (xs := #[]) (n := 0) (Heap.get?_push_size _ rfl) rfl ?_)))
  rw [if_neg (by simp)]
  refine wpAny_bind (listUpdate_at (xs := #[]) (n := 0) (Heap.get?_push_size _ rfl) rfl ?_ (Nat.zero_le _) (by change (#[] ++ us.toArray).size ≤ sizeLine + 1; simp only [Array.size_append, List.size_toArray, List.length_nil]; omega))
  refine wpAny_pure ?_
  change wpAny (model P w) A (load s.heap.objs.size >>= _) Q E { s with heap := heldAll s.heap us }
  refine wpAny_bind (wpAny_load (get?_update_seq (Heap.get?_push_size _ rfl) _) ?_)
  change wpAny _ _ (pure ((#[] : Array Value) ++ us.toArray).toList) Q E _
  have same : ((#[] : Array Value) ++ us.toArray).toList = us := by simp
  rw [same]
  exact wpAny_pure told
theorem sorted_tuple {l : Addr} {us : List Value} {xs : List Str} {Q : Value → Shared → Prop} (isT : s.heap.IsTuple l us.toArray) (texts : StrsAre us xs) (few : us.length < 64)
    (told : ∀ (out : Array Value) (ys : List Str), StrsAre out.toList ys → ys.Perm xs → sortedS ys = true → Q (.ref (s.heap.objs.size + 1)) { s with heap := sortedAll s.heap us out }) :
    wpAny (model P w) A (call (.builtin "sorted") [.ref l]) Q E s := by
  have fits : us.length ≤ sizeLine := small64 few
  refine Calls.call_function_entry kind_sorted plain_sorted entry_sorted (args_sorted1 _) ?_
  unfold Builtin.«sorted»
  refine wpAny_bind (m := checkCount "sorted" 1 1 _) (wpAny_pure (wpAny_bind (gather_tuple isT (wpAny_bind (wpAny_newList ?_ fits)) fits)))
  have sz : (heldAll s.heap us).objs.size = s.heap.objs.size + 1 := by
    rw [Heap.size_update, size_push']
  have at3 : ((heldAll s.heap us).push (seqObj "list" us.toArray 0)).get? (s.heap.objs.size + 1) = some (seqObj "list" us.toArray 0) := by
    rw [← sz]
    exact Heap.get?_push_size _ rfl
  change wpAny _ _ _ _ _ { s with heap := (heldAll s.heap us).push (seqObj "list" us.toArray 0) }
  rw [sz]
  refine wpAny_bind (wpAny_holding (wpAny_call_entry slot_list_sort ⟨_, at3, rfl⟩ entry_list_sort (list_sort_treeK strKind_oneLt at3 texts.keysOf (fun a b r e => keyKind_strs (by rw [← e]; exact texts)) few fun st pm so => ⟨_, rfl, ?_⟩) (args_list_sort _)))
  obtain ⟨ys, h1, h2, h3⟩ := sorted_out_str texts pm so
  exact wpAny_pure ⟨_, rfl, told _ ys h1 h2 h3⟩
end
section
variable {X : Cx}
def rSortT (K : PySem.W.Frag) : List V → Hp → VK → Prop := fun vs H Q => ∃ (a : Addr) (xs : List Str), vs = [V.ref a] ∧ SqT K H a (xs.map V.str) ∧ xs.length < 64 ∧ ∀ (ys : List Str) (p : Addr), ys.Perm xs → sortedS ys = true → H p = none → Q (.ref p) (upd H p (.lst (ys.map V.str)))
theorem sortTK {K : PySem.W.Frag} (h : X.K = K) : CallR X (.builtin "sorted") (rSortT K) := by
  subst h
  intro pins s σ H vs us Q I rel told
  obtain ⟨a, xs, rfl, hs, few, q⟩ := told
  obtain ⟨u, rfl, ru⟩ := vals1 rel
  cases ru
  obtain ⟨its, rv, pt, _⟩ := I.tuple hs
  have len := rv.length
  rw [List.length_map] at len
  refine sorted_tuple (us := its) pt rv.strs (by omega) fun out ys h1 h2 h3 => ?_
  obtain ⟨ep, at_p⟩ := PyProof.Rows.sortedAll_at s.heap its out
  have fits : (ys.map V.str).length ≤ sizeLine := by
    rw [List.length_map, h2.length_eq]
    exact small64 few
  exact ⟨.ref _, upd H (s.heap.objs.size + 1) (.lst (ys.map V.str)), I.laid (t' := s.toks) (fun _ _ => PyProof.Rows.sortedAll_old) (Nat.le_succ _) ⟨fits, out.toList, ep, vals_of_strs h1, at_p⟩, rfl, q ys _ h2 h3 (I.hok.fresh (Nat.le_succ _))⟩
theorem sortLK {K : PySem.W.Frag} (h : X.K = K) : CallR X (.builtin "sorted") (rSortedS K) := by subst h; exact cr_sortedS
end
/-! ### one sorted row alone -/
def leS (x y : Str) : Prop := x.cps.toList ≤ y.cps.toList
theorem rising_le : ∀ {r : List Str} {p : Str}, risingS p r = true → ∀ y ∈ r, leS p y
  | [], _, _, y, h => by cases h
  | x :: r, p, h, y, hy => by
    simp only [risingS, Bool.and_eq_true, Bool.not_eq_true', ltCps_eq, decide_eq_false_iff_not] at h
    have px : leS p x := List.not_lt.mp h.1
    rcases List.mem_cons.mp hy with rfl | hy
    · exact px
    · exact List.le_trans px (rising_le h.2 y hy)
theorem rising_tail {r : List Str} {p : Str} (h : risingS p r = true) : sortedS r = true := by
  cases r with
  | nil => rfl
  | cons x r =>
    simp only [risingS, Bool.and_eq_true] at h
    exact h.2
theorem leS_eq {x y : Str} (h : leS x y) (k : leS y x) : x = y := by
  have e : x.cps.toList = y.cps.toList := List.le_antisymm h k
  cases x
  cases y
  simpa using e
theorem sorted_unique : ∀ {xs ys : List Str}, sortedS xs = true → sortedS ys = true → xs.Perm ys → xs = ys
  | [], ys, _, _, p => by
    have := p.length_eq
    cases ys with
    | nil => rfl
    | cons _ _ => simp at this
  | x :: r, [], _, _, p => by
    have := p.length_eq
    simp at this
  | x :: r, y :: q, hx, hy, p => by
    have h1 : ∀ z ∈ r, leS x z := rising_le hx
    have h2 : ∀ z ∈ q, leS y z := rising_le hy
    have e : x = y := by
      have hxm : x ∈ y :: q := p.mem_iff.mp (List.mem_cons_self ..)
      have hym : y ∈ x :: r := p.mem_iff.mpr (List.mem_cons_self ..)
      rcases List.mem_cons.mp hxm with h | h
      · exact h
      · rcases List.mem_cons.mp hym with k | k
        · exact k.symm
        · exact leS_eq (h1 y k) (h2 x h)
    subst e
    rw [sorted_unique (rising_tail hx) (rising_tail hy) (List.Perm.cons_inv p)]
theorem nodes_lenB : ∀ ds : List PyData, ds.length ≤ nodess ds
  | [] => by simp
  | d :: ds => by
    have := nodes_lenB ds
    have : 1 ≤ nodes d := by cases d <;> simp [nodes]
    simp only [List.length_cons, nodess]
    omega
theorem nodes_memB : ∀ {ds : List PyData} {d : PyData}, d ∈ ds → nodes d ≤ nodess ds
  | [], _, h => by cases h
  | e :: ds, d, h => by
    simp only [nodess]
    rcases List.mem_cons.mp h with rfl | h
    · omega
    · have := nodes_memB h
      omega
theorem oks_memB {B : Nat} : ∀ {ds : List PyData}, okDs B ds → ∀ d ∈ ds, okD B d
  | [], _, d, h => by cases h
  | e :: ds, o, d, h => by
    simp only [okDs] at o
    rcases List.mem_cons.mp h with rfl | h
    · exact o.1
    · exact oks_memB o.2 d h
def insS (x : Str) : List Str → List Str
  | [] => [x]
  | y :: r => if y.cps.toList < x.cps.toList then y :: insS x r else x :: y :: r
theorem insS_perm (x : Str) : ∀ r : List Str, (insS x r).Perm (x :: r)
  | [] => List.Perm.refl _
  | y :: r => by
    unfold insS
    split
    · exact ((insS_perm x r).cons y).trans (List.Perm.swap x y r)
    · exact List.Perm.refl _
theorem insS_rise (x : Str) : ∀ {r : List Str} {p : Str}, risingS p r = true → leS p x → risingS p (insS x r) = true
  | [], p, _, h => by
    simp only [insS, risingS, Bool.and_true, Bool.not_eq_true', ltCps_eq, decide_eq_false_iff_not]
    exact List.not_lt.mpr h
  | y :: r, p, hr, h => by
    simp only [risingS, Bool.and_eq_true] at hr
    unfold insS
    split
    · rename_i hy
      simp only [risingS, Bool.and_eq_true]
      exact ⟨hr.1, insS_rise x hr.2 (List.le_of_lt hy)⟩
    · rename_i hy
      simp only [risingS, Bool.and_eq_true, Bool.not_eq_true', ltCps_eq, decide_eq_false_iff_not]
      exact ⟨List.not_lt.mpr h, hy, hr.2⟩
theorem insS_sorted (x : Str) : ∀ {r : List Str}, sortedS r = true → sortedS (insS x r) = true
  | [], _ => rfl
  | y :: r, h => by
    unfold insS
    split
    · rename_i hy
      exact insS_rise x h (List.le_of_lt hy)
    · rename_i hy
      simp only [sortedS, risingS, Bool.and_eq_true, Bool.not_eq_true', ltCps_eq, decide_eq_false_iff_not]
      exact ⟨hy, h⟩
theorem sort_ex : ∀ xs : List Str, ∃ ys : List Str, ys.Perm xs ∧ sortedS ys = true
  | [] => ⟨[], List.Perm.refl _, rfl⟩
  | x :: xs => by
    obtain ⟨ys, h1, h2⟩ := sort_ex xs
    exact ⟨insS x ys, (insS_perm x ys).trans (h1.cons x), insS_sorted x h2⟩
end NL

/-! the law's own call, with the modules' dict held in sight -/
namespace NL
open PySem PySem.Spec PyProof.Rows L2 Evl
section
variable {P : Program} {w : World} {K : PySem.W.Frag} {mg mb : Str → Option Value} {k : Nat} {fa a : Addr} {fd : FuncData} {x : Str} {sp : Sp} {s : Shared} {vals : List Value} {ns : List Int}
theorem held_call (kin : K.In s.heap) (glob : s.heap.Ns mainGlobals mg) (blt : s.heap.Ns builtinsNs mb) (boot : ∀ x : Str, x ≠ "__name__" → mb x = bootBuiltins x) (nolim : s.heap.NoLimit) (gens : s.gens = #[])
    (script : s.heap.get? a = some { cls := .type "list", data := .seq vals.toArray }) (room : Room k callerA) (F : ∀ base : Heap, K.In base → base.Ns mainGlobals mg → FnG P w K mg base k fa fd [x] sp)
    (bind : ∀ (s : Shared) (u : Value), BindsTo s fd ⟨[u], []⟩ [(x, u)]) (H : Hp) (only : ∀ b, H b = none ∨ ∃ o u, H b = some (.frz o u)) (promise : sp [.ref a] H (fun v _ => v = .bl true) E0) (hok : HOk P w H s.heap) (just : ∀ b, H b ≠ none → b = a ∨ b = sysModules) (off : ∀ b, H b ≠ none → K.lookup b = none) :
    codeAny (model P w) callerA (.call (.ref fa) ⟨[.ref a], []⟩) (fun r s' => r = .ok (.ret (.bool true)) ∧ OldK s.heap s'.heap ∧ s'.os = s.os ∧ AllBare s'.gens) s := by
  have free : ∀ {b : Addr} {o : Obj}, s.heap.get? b = some o → b ≠ sysModules → (∀ its n, o.data ≠ .seq its n) → H b = none := by
    intro b o e nsys nseq
    cases hb : H b with
    | none => rfl
    | some u =>
      exfalso
      rcases just b (by rw [hb]; exact fun z => by cases z) with eb | eb
      · subst eb
        rw [script] at e
        cases e
        exact nseq _ _ rfl
      · exact nsys eb
  have seen : ∀ {b : Addr} {m : Str → Option Value}, b ≠ sysModules → s.heap.Ns b m → (hidT s.heap H).Ns b m := by
    intro b m n h
    obtain ⟨o, es, ep, e, d, r⟩ := h
    exact ⟨o, es, ep, hidT_get e (free e n (fun its n z => by rw [d] at z; cases z)), d, r⟩
  have kin' : K.In (hidT s.heap H) := by
    intro b o e
    refine hidT_get (kin b o e) ?_
    cases hb : H b with
    | none => rfl
    | some u =>
      exfalso
      rw [off b (by rw [hb]; exact fun z => by cases z)] at e
      cases e
  have m1 : mainGlobals ≠ sysModules := by decide
  have env0 : Env0 P w K mg (hidT s.heap H) callerA [] s H := by
    refine ⟨rfl, ⟨kin', seen m1 glob, ⟨mb, seen (by decide) blt, boot⟩, ?_⟩, fun b o e => of_hidT e, Nat.le_of_eq (hidT_size _ _), trivial, fun b hb => ?_, hok, .of_eq gens⟩
    · obtain ⟨mc, h1, h2⟩ := nolim
      exact ⟨mc, seen (by decide) h1, h2⟩
    · exact absurd (show b ∈ ([] : List Addr) from hb) (by simp)
  refine codeAny_mono ((F _ kin' (seen m1 glob)).go callerA [] s H ⟨[.ref a], []⟩ [.ref a] [.ref a] _ _ rfl room env0 (bind s (.ref a)) (.cons rfl .nil) promise) fun r s' out => ?_
  match r, out with
  | .error _, out => exact out.elim
  | .ok .next, out => exact out.elim
  | .ok .brk, out => exact out.elim
  | .ok .cont, out => exact out.elim
  | .ok (.ret u), out =>
    obtain ⟨v, H', os, bare, un, hok', ru, hv⟩ := out
    have ev : v = .bl true := hv
    subst ev
    have eu : u = Value.bool true := ru
    subst eu
    refine ⟨rfl, OldK.of_keep fun b o e => ?_, os, bare⟩
    rcases only b with z | ⟨ob, y, z⟩
    · exact un.keep b o e z (fun q => absurd (show b ∈ ([] : List Addr) from q) (by simp)) (by simp)
    · have was := (hok b _ z).1
      have now := (hok' b _ (un.frzs b ob _ z)).1
      rw [e] at was
      cases was
      exact now
theorem law_y {mm : Str → Option Value} (kin : K.In s.heap) (glob : s.heap.Ns mainGlobals mg) (blt : s.heap.Ns builtinsNs mb) (boot : ∀ x : Str, x ≠ "__name__" → mb x = bootBuiltins x) (nolim : s.heap.NoLimit) (mods : s.heap.Ns sysModules mm) (gens : s.gens = #[])
    (script : s.heap.get? a = some { cls := .type "list", data := .seq vals.toArray }) (whole : PyProof.Rows.IntsAre vals ns) (few : ns.length ≤ sizeLine) (room : Room k callerA) (F : ∀ base : Heap, K.In base → base.Ns mainGlobals mg → FnG P w K mg base k fa fd [x] sp)
    (bind : ∀ (s : Shared) (u : Value), BindsTo s fd ⟨[u], []⟩ [(x, u)]) (promise : ∀ H : Hp, Sy K H → SqL K H a (ns.map V.int) → sp [.ref a] H (fun v _ => v = .bl true) E0) :
    codeAny (model P w) callerA (.call (.ref fa) ⟨[.ref a], []⟩) (fun r s' => r = .ok (.ret (.bool true)) ∧ OldK s.heap s'.heap ∧ s'.os = s.os ∧ AllBare s'.gens) s := by
  have rel := vals_ints whole
  have many := whole.length
  obtain ⟨om, es, ep, hm, hd, _⟩ := mods
  have apart : a ≠ sysModules := by
    intro z
    subst z
    rw [script] at hm
    cases hm
    cases hd
  let S : HO := .frz { cls := .type "list", data := .seq vals.toArray } (.lst (ns.map V.int))
  let M : HO := .frz om (.ext fun _ => True)
  let H : Hp := fun b => if b = a then (if K.lookup a = none then some S else none) else if b = sysModules then (if K.lookup sysModules = none then some M else none) else none
  have Ha : H a = if K.lookup a = none then some S else none := if_pos rfl
  have Hm : H sysModules = if K.lookup sysModules = none then some M else none := by
    show (if sysModules = a then _ else _) = _
    rw [if_neg (Ne.symm apart), if_pos rfl]
  have Ho : ∀ b, b ≠ a → b ≠ sysModules → H b = none := fun b h1 h2 => by
    show (if b = a then _ else if b = sysModules then _ else none) = none
    rw [if_neg h1, if_neg h2]
  have okS : ∀ H' : Hp, ObjOk P w H' s.heap a S := fun H' => ⟨script, by rw [List.length_map]; exact few, vals, _, rel, script⟩
  have okM : ∀ H' : Hp, ObjOk P w H' s.heap sysModules M := fun H' => ⟨hm, trivial, ⟨om, hm⟩, fun _ _ _ _ => trivial⟩
  refine held_call kin glob blt boot nolim gens script room F bind H (fun b => ?_) (promise H ?_ ?_) (fun b o z => ?_) (fun b z => ?_) (fun b z => ?_)
  · by_cases h1 : b = a
    · subst h1
      rw [Ha]
      by_cases h2 : K.lookup b = none
      · rw [if_pos h2]
        exact Or.inr ⟨_, _, rfl⟩
      · rw [if_neg h2]
        exact Or.inl rfl
    · by_cases h3 : b = sysModules
      · subst h3
        rw [Hm]
        by_cases h2 : K.lookup sysModules = none
        · rw [if_pos h2]
          exact Or.inr ⟨_, _, rfl⟩
        · rw [if_neg h2]
          exact Or.inl rfl
      · exact Or.inl (Ho b h1 h3)
  · cases h2 : K.lookup sysModules with
    | none => exact Or.inr ⟨om, _, by rw [Hm, if_pos h2]⟩
    | some o => exact Or.inl ⟨o, h2⟩
  · cases h2 : K.lookup a with
    | none => exact Or.inl (Or.inr ⟨_, by rw [Ha, if_pos h2]⟩)
    | some o =>
      have e := kin a o h2
      rw [script] at e
      cases e
      exact Or.inr ⟨_, vals.toArray, _, h2, rfl, rfl, rfl, by rw [List.size_toArray, many]; exact few, by simpa using rel⟩
  · by_cases h1 : b = a
    · subst h1
      rw [Ha] at z
      by_cases h2 : K.lookup b = none
      · rw [if_pos h2] at z
        cases z
        exact okS H
      · rw [if_neg h2] at z
        cases z
    · by_cases h3 : b = sysModules
      · subst h3
        rw [Hm] at z
        by_cases h2 : K.lookup sysModules = none
        · rw [if_pos h2] at z
          cases z
          exact okM H
        · rw [if_neg h2] at z
          cases z
      · rw [Ho b h1 h3] at z
        cases z
  · by_cases h1 : b = a
    · exact Or.inl h1
    · by_cases h3 : b = sysModules
      · exact Or.inr h3
      · exact absurd (Ho b h1 h3) z
  · by_cases h1 : b = a
    · subst h1
      rw [Ha] at z
      by_cases h2 : K.lookup b = none
      · exact h2
      · rw [if_neg h2] at z
        exact absurd rfl z
    · by_cases h3 : b = sysModules
      · subst h3
        rw [Hm] at z
        by_cases h2 : K.lookup sysModules = none
        · exact h2
        · rw [if_neg h2] at z
          exact absurd rfl z
      · exact absurd (Ho b h1 h3) z
end
/-- the goal that the head leaves, from the law's promise; the modules' dict is in sight -/
theorem walk_y {l : PySem.W.OpenLaw} {n k : Nat} {q : Program} {loose : List Str} {XP : (Str → Option Value) → Heap → Prop} {YP : World → Heap → Prop} {d : DefRec} {K : Params → PySem.W.Frag} {sp : PySem.W.Frag → Sp} {x : Str}
    (hn : l.most = some n) (few : n ≤ sizeLine) (hdf : d.params.defaults = []) (himp : importsNone q = true) (room : Room k callerA) (hY : ∀ (w : World) (h : Heap), YP w h → (K w.params).In h)
    (F : ∀ (w : World) (mg : Str → Option Value) (fa : Addr) (h : Heap), (K w.params).In h → h.Ns mainGlobals mg → mg d.name = some (.ref fa) →
      ∃ fd : FuncData, (∀ (s : Shared) (u : Value), BindsTo s fd ⟨[u], []⟩ [(x, u)]) ∧ ∀ base : Heap, (K w.params).In base → base.Ns mainGlobals mg → FnG l.prog w (K w.params) mg base k fa fd [x] (sp (K w.params)))
    (promise : ∀ (K : PySem.W.Frag) (H : Hp) (a : Addr) (ns : List Int), ns.length ≤ n → Sy K H → SqL K H a (ns.map V.int) → sp K [.ref a] H (fun v _ => v = .bl true) E0) :
    PySem.W.WalkO q loose XP YP l.row.toRowW d [] (fun f vs => PySem.call f vs) := by
  refine Att.attach_call hn hdf fun w s₀ s₁ mg mb fa o pm cd doc a vs ns G Y ho hd hcd hmg hobj hints hlen hg => ?_
  have kin := hY w _ Y
  obtain ⟨fd, bind, made⟩ := F w mg fa _ kin G.T.g hmg
  obtain ⟨mm, hmm, _⟩ := (G.T.seer himp).mods
  exact law_y kin G.T.g G.T.b G.T.builtins G.T.nolimit hmm hg hobj hints (Nat.le_trans hlen few) room made bind fun H hs hS => promise _ H a ns hlen hs hS
end NL

/-! len of an object by its own __len__; dict of a tuple of pairs, of a zip of two tuples -/
namespace NL
open PySem L2 Evl
/-! ### len(x), the class has __len__ -/
def rLenO (C : Addr) (sp : Sp) (Z : XK) : List V → Hp → VK → Prop := fun xs H Q =>
  ∃ a dx fs, xs = [.ref a] ∧ H a = some (.ins C dx fs) ∧ sp [.ref a] H (fun v H' => ∃ i : Int, v = .int i ∧ (0 ≤ i ∧ i < 2 ^ 63) ∧ Q (.int i) H') Z
theorem call_lenO {X : Cx} {CX : CXT} {k : Nat} {C f : Addr} {fd : FuncData} {ps : List Str} {sp : Sp} {Z : XK}
    (F : FnOk X.prog X.w X.K X.mg X.base CX k f fd ps sp) (hs : PySem.W.findIn X.K (.ref C) "__len__" = some (some (.ref f)))
    (hf : PySem.W.isFn X.K (.ref f) = true) (hr : Room (k + 1) X.A) (hb : Binds X.K fd ps []) (hx : Passes CX X Z) :
    CallR X (.builtin "len") (rLenO C sp Z) := by
  intro pins s σ H xs us Q I rv h
  obtain ⟨a, dx, fs, rfl, ha, q⟩ := h
  obtain ⟨u, rfl, ru⟩ := vals1 rv
  cases ru
  obtain ⟨mA, J, _⟩ := ins_get I.hok ha
  obtain ⟨od, J, _⟩ := J.look
  obtain ⟨m, hF⟩ := I.fr
  refine PySem.W.len_K hF I.ok.mod.kin J hs hf ?_
  have l1 : ([V.ref a] : List V).length = ps.length := F.len _ _ _ _ q
  refine wpAny_call (codeAny_mono (F.run X.A.in1 X.stack s H ⟨[.ref a], []⟩ [.ref a] [.ref a] _ Z hr.in1 I.env0.in1 ?_ (.cons rfl .nil) q) fun r s' hq => ?_)
  · have := hb s [.ref a] I.kIn (by simpa using l1)
    simpa using this
  · cases r with
    | error e => exact hx pins σ H s e s' I hq
    | ok fl =>
      cases fl with
      | ret w =>
        obtain ⟨z, H', I', rz, i, ez, hi, q'⟩ := I.after hq
        subst ez
        obtain ⟨t, rfl⟩ := rz
        exact ⟨hi, .int i, H', I'.tok _, ⟨_, rfl⟩, q'⟩
      | next => exact hq.elim
      | brk => exact hq.elim
      | cont => exact hq.elim
/-! ### tuple(l): an object that is known to have no dict of its own -/
def rTupF (K : PySem.W.Frag) : List V → Hp → VK → Prop := fun xs H Q =>
  ∃ p ys, xs = [.ref p] ∧ SqL K H p ys ∧ ∀ (l : Addr) (o : Obj), H l = none → o.dict = none → Q (.ref l) (upd H l (.frz o (.tup ys)))
theorem call_tupF {X : Cx} {K : PySem.W.Frag} (hK : X.K = K) : CallR X (.type "tuple") (rTupF K) := by
  subst hK
  intro pins s σ H xs us Q I rv h
  obtain ⟨p, ys, rfl, hq, q⟩ := h
  obtain ⟨u, rfl, ru⟩ := vals1 rv
  cases ru
  obtain ⟨its, ri, pl, hz⟩ := I.list hq
  have hlen := ri.length
  refine PySem.call_tuple_list pl.isList (fun hp kp => ?_) (by simp only [List.size_toArray]; omega)
  have J : Inv X pins σ H { s with heap := hp } := I.kept (t' := s.toks) kp
  exact ⟨.ref hp.objs.size, _, J.laid (o := .frz { cls := .type "tuple", data := .seq its.toArray } (.tup ys)) (t' := s.toks) (fun b o e => Heap.get?_push_of_some _ e) (Nat.le_refl _)
    ⟨Heap.get?_push_size _ rfl, hz, its, ri, PyProof.Rows.IsTup.new _ _⟩, rfl, q _ _ (J.hok.fresh (Nat.le_refl _)) rfl⟩
/-! ### dict(t), t a tuple of pairs -/
def rDictT (K : PySem.W.Frag) : List V → Hp → VK → Prop := fun xs H Q =>
  ∃ (a : Addr) (o : Obj) (ps : List Addr) (kvs : List (Key × V)), xs = [.ref a] ∧ H a = some (.frz o (.tup (ps.map V.ref))) ∧ o.dict = none ∧ Paired (fun p kv => SqT K H p [kV kv.1, kv.2]) ps kvs ∧
    ∀ p, H p = none → Q (.ref p) (upd H p (.dK (mergeK [] kvs)))
theorem prs_of {X : Cx} {pins : List (Addr × Obj)} {σ : L2.St} {H : Hp} {s : Shared} (I : Inv X pins σ H s) : ∀ {ps : List Addr} {kvs : List (Key × V)}, Paired (fun p kv => SqT X.K H p [kV kv.1, kv.2]) ps kvs →
    ∃ (us : List (Value × Value)) (rs : List (Key × Value)), KV kvs rs ∧ us.length = ps.length ∧ rs.length = ps.length ∧
      ∀ (j : Nat) (k v : Value), us[j]? = some (k, v) → (∃ p, ps[j]? = some p ∧ s.heap.IsTuple p #[k, v]) ∧ ∃ r, rs[j]? = some (r, v) ∧ (mixKind X.prog X.w).is r k = true
  | _, _, .nil => ⟨[], [], .nil, rfl, rfl, fun j k v e => by simp at e⟩
  | _, _, .cons (a := p) (b := kv) h t => by
    obtain ⟨us, rs, c, l1, l2, ih⟩ := prs_of I t
    obtain ⟨its, rv, ht, _⟩ := I.tuple h
    obtain ⟨u, y, ei, ru, ry⟩ := vals2 rv
    subst ei
    refine ⟨(u, y) :: us, (kv.1, y) :: rs, .cons ⟨rfl, ry⟩ c, by simp [l1], by simp [l2], fun j k v e => ?_⟩
    cases j with
    | zero =>
      cases Option.some.inj e
      exact ⟨⟨p, rfl, ht⟩, kv.1, rfl, kV_is ru⟩
    | succ j => exact ih j k v (by simpa using e)
theorem call_dictT {X : Cx} {K : PySem.W.Frag} (hK : X.K = K) (hcalm : X.calm = true) : CallR X (.type "dict") (rDictT K) := by
  subst hK
  intro pins s σ H xs us Q I rv h
  obtain ⟨a, o, ps, kvs, rfl, hq, hdn, hp, q⟩ := h
  obtain ⟨u, rfl, ru⟩ := vals1 rv
  cases ru
  obtain ⟨e1, hz, its, ri, o', e2, hc, n, hdat⟩ := I.hok a _ hq
  rw [e1] at e2
  cases e2
  have hits := refs_at ri
  subst hits
  rw [List.length_map] at hz
  obtain ⟨prs, rs, rel, l1, l2, hpr⟩ := prs_of I hp
  have sz : ((ps.map Value.ref).toArray).size = prs.length := by simp [l1]
  refine PySem.call_dict_pairs (knd := mixKind X.prog X.w) (kvs := rs) (PySem.PairArg.tuple a (ps.map Value.ref).toArray (fun j => ps.getD j 0) prs) (I.ok.hd hcalm) ⟨⟨o, n, e1, hc, hdn, hdat⟩, sz, fun j k v e => ?_⟩ ⟨by rw [l1, l2], fun i k v e => (hpr i k v e).2⟩ (by rw [l1]; exact hz) fun hp' tk hd' kp => ?_
  · obtain ⟨⟨p, hj, ht⟩, _⟩ := hpr j k v e
    refine ⟨?_, Or.inl ?_⟩
    · simp [hj, List.getD]
    · simpa [hj, List.getD] using ht
  · have hm : (s.heap.objs.size == sysModules) = false := beq_eq_false_iff_ne.mpr (Nat.ne_of_gt I.big)
    have hlen : (mergeK [] kvs).length ≤ sizeLine := by
      have z := length_mergeK kvs []
      rw [List.length_nil, rel.length, l2] at z
      omega
    exact ⟨.ref s.heap.objs.size, _, I.laid (o := .dK (mergeK [] kvs)) (t' := tk) (fun b ob e => kp b ob (by simp) e) (Nat.le_refl _) ⟨hlen, hm, merged [] rs, KV.merge rel .nil, hd'⟩, rfl, q _ (I.hok.fresh (Nat.le_refl _))⟩
/-! ### dict(zip(s, t)), s and t tuples -/
section
variable {prog : Program} {w : World} {A : Around} {E : Value → Shared → Prop} {s : Shared}
/-- a further step of a zip whose last tuple is still held: by the steps of the two iterators -/
theorem zipH_go {c ti out T i j : Addr} {f : Bool} {oT : Obj} {Q : Fin → Shared → Prop} (hc : IsZipHeld s.heap c ti out T f) (hT : s.heap.get? T = some oT) (hi : IsPair s.heap ti (.ref i) (.ref j))
    (st : ∀ g, IsZipHeld g c ti out T true → Heap.SameBut c s.heap g → wpAny (model prog w) A (Builtin.SmallTypes.nextOf (.ref i)) (fun x s2 =>
      wpAny (model prog w) A (Builtin.SmallTypes.nextOf (.ref j)) (fun y s3 => Q (.done (.ret (.ref s3.heap.objs.size))) { s3 with heap := s3.heap.push { cls := .type "tuple", data := .seq #[x, y] } }) E s2) E { s with heap := g }) :
    wpAny (model prog w) A (Builtin.«zip.__next__» ⟨[.ref c], []⟩) Q E s := by
  show wpAny _ _ (field (.ref c) 2 >>= _) _ _ _
  refine wpAny_bind (wpAny_field hc rfl (x := .bool false) rfl ?_)
  show wpAny _ _ (field (.ref c) 3 >>= _) _ _ _
  refine wpAny_bind (wpAny_field hc rfl (x := .ref ti) rfl (wpAny_bind (wpAny_seqItems hi rfl ?_)))
  show wpAny _ _ (Builtin.SmallTypes.ownedTupleIsFree (.ref c) >>= _) _ _ _
  refine wpAny_bind (wpAny_tupleHeld_zip hc hT fun g hg sg => ?_)
  simp only [if_false, Bool.false_eq_true]
  refine wpAny_bind ?_
  rw [← Array.forIn_toList]
  simp only [List.forIn_nil, List.forIn_cons]
  refine wpAny_bind (wpAny_bind (wpAny_holding (wpAny_bind (wpAny_mono (st g hg sg) (fun u1 s2 k => wpAny_pure (wpAny_pure ?_)) fun _ _ z => z))))
  refine wpAny_bind (wpAny_bind (wpAny_holding (wpAny_bind (wpAny_mono k (fun u2 s3 k' => wpAny_pure (wpAny_pure (wpAny_pure ?_))) fun _ _ z => z))))
  show wpAny _ _ (newTuple [u1, u2] >>= _) _ _ _
  exact wpAny_bind (wpAny_newTuple (wpAny_pure k'))
/-- the same for next(..) -/
theorem zipH_next {c ti out T i j a b : Addr} {f : Bool} {oT : Obj} {m : Nat} {xs ys : Array Value} {Q : Option Value → Shared → Prop} (hh : A.handled = none) (D : ZipApart c ti out i j a b)
    (hc : IsZipHeld s.heap c ti out T f) (hT : s.heap.get? T = some oT) (hi : IsPair s.heap ti (.ref i) (.ref j)) (h1 : s.heap.IsTupleIter i a m) (h2 : s.heap.IsTupleIter j b m) (p1 : s.heap.IsTuple a xs) (p2 : s.heap.IsTuple b ys)
    (hx : ∀ x y, xs[m]? = some x → ys[m]? = some y → ∀ g, IsZipHeld g c ti out T true → g.IsTupleIter i a (m + 1) → g.IsTupleIter j b (m + 1) → IsPair g s.heap.objs.size x y →
      (∀ d o, d ≠ c → d ≠ i → d ≠ j → s.heap.get? d = some o → g.get? d = some o) → Q (some (.ref s.heap.objs.size)) { s with heap := g })
    (he : xs[m]? = none ∨ ys[m]? = none → ∀ g, (∀ d o, d ≠ c → d ≠ i → d ≠ j → s.heap.get? d = some o → g.get? d = some o) → Q none { s with heap := g }) : wpAny (model prog w) A (pyNext (.ref c)) Q E s := by
  have ty : s.TypeIs (.ref c) "zip" := ⟨_, hc, rfl⟩
  have stop : ∀ (g : Heap) (e : Addr), (xs[m]? = none ∨ ys[m]? = none) → (∀ d o, d ≠ c → d ≠ i → d ≠ j → s.heap.get? d = some o → g.get? d = some o) → (∃ o, g.get? e = some o ∧ o.cls = .type "StopIteration") →
      wpAny (model prog w) A (isInstance (.ref e) (.type "StopIteration") >>= fun b => if b = true then pure none else throw (Value.ref e)) Q E { s with heap := g } := fun g e hn k z => by
    obtain ⟨o, ho, hcl⟩ := z
    refine wpAny_bind (wpAny_isInstance (T := "StopIteration") (b := true) ⟨o, ho, hcl⟩ isSubtype_stop ?_)
    exact wpAny_pure (he hn g k)
  unfold pyNext
  refine wpAny_bind (wpAny_attempt (wpAny_callSpecial?_slot (name := Str.ofString "__next__") ty F.slot_zip_next (wpAny_call_entry F.slot_zip_next ty F.entry_zip_next (zipH_go hc hT hi fun g1 hg1 sg1 => ?_) (F.args_zip_next_1 _))))
  have q1 := h1.extBut sg1.extBut D.i1z
  have t1 := p1.extBut sg1.extBut D.l1z
  cases ex : xs[m]? with
  | none => exact RZ.nextOf_tuple_end hh q1 t1 ex fun g2 e k z => stop g2 e (Or.inl ex) (fun d o d1 d2 d3 v => k _ _ d2 (sg1.extBut _ _ d1 v)) z
  | some x =>
    refine RZ.nextOf_tuple_item q1 t1 ex fun g2 q2 sg2 => ?_
    have u2 := (h2.extBut sg1.extBut D.i2z).extBut sg2.extBut D.i12.symm
    have t2 := (p2.extBut sg1.extBut D.l2z).extBut sg2.extBut D.l2i1
    cases ey : ys[m]? with
    | none => exact RZ.nextOf_tuple_end hh u2 t2 ey fun g3 e k z => stop g3 e (Or.inr ey) (fun d o d1 d2 d3 v => k _ _ d3 (sg2.extBut _ _ d2 (sg1.extBut _ _ d1 v))) z
    | some y =>
      refine RZ.nextOf_tuple_item u2 t2 ey fun g3 u3 sg3 => ?_
      have sz : g3.objs.size = s.heap.objs.size := by rw [sg3.1, sg2.1, sg1.1]
      refine ⟨_, rfl, wpAny_pure ?_⟩
      have pr : IsPair (g3.push { cls := .type "tuple", data := .seq #[x, y] }) g3.objs.size x y := Heap.get?_push_size _ rfl
      rw [sz] at pr
      have hq := hx x y ex ey (g3.push { cls := .type "tuple", data := .seq #[x, y] }) (Heap.get?_push_of_some _ (sg3.extBut _ _ D.i2z.symm (sg2.extBut _ _ D.i1z.symm hg1))) ((q2.extBut sg3.extBut D.i12).at fun o z => Heap.get?_push_of_some _ z) (u3.at fun o z => Heap.get?_push_of_some _ z) pr
        fun d o d1 d2 d3 z => Heap.get?_push_of_some _ (sg3.extBut _ _ d3 (sg2.extBut _ _ d2 (sg1.extBut _ _ d1 z)))
      rw [← sz] at hq
      exact hq
/-- what a zip of two tuples is ahead of its step m: no tuple handed out yet, or one that is held -/
def ZipS (c ti out i j a b d : Addr) (xs ys : Array Value) (m : Nat) (h : Heap) : Prop :=
  IsPair h ti (.ref i) (.ref j) ∧ h.IsTupleIter i a m ∧ h.IsTupleIter j b m ∧ h.IsTuple a xs ∧ h.IsTuple b ys ∧
    ((IsZip h c ti out .none ∧ ∃ x y, IsPair h out x y) ∨ ∃ T f oT, IsZipHeld h c ti out T f ∧ h.get? T = some oT ∧ T ≠ c ∧ T ≠ i ∧ T ≠ j ∧ T ≠ d)
def Zip0 (c ti out i j a b : Addr) (xs ys : Array Value) (h : Heap) : Prop :=
  IsPair h ti (.ref i) (.ref j) ∧ h.IsTupleIter i a 0 ∧ h.IsTupleIter j b 0 ∧ h.IsTuple a xs ∧ h.IsTuple b ys ∧ IsZip h c ti out .none ∧ ∃ x y, IsPair h out x y
theorem ZipS.src {c ti out i j a b d : Addr} {xs ys : Array Value} (hh : A.handled = none) (D : ZipApart c ti out i j a b) (hsz : xs.size = ys.size)
    (n1 : ti ≠ d) (n2 : i ≠ d) (n3 : j ≠ d) (n4 : a ≠ d) (n5 : b ≠ d) (n6 : c ≠ d) (n7 : out ≠ d) :
    PairSrc prog w A c d [c, out, i, j] xs.size (fun m k v => xs[m]? = some k ∧ ys[m]? = some v) (ZipS c ti out i j a b d xs ys) where
  off := by
    simp only [List.mem_cons, List.not_mem_nil, or_false, not_or]
    exact ⟨n6.symm, n7.symm, n2.symm, n3.symm⟩
  frame := by
    rintro m h g ⟨z1, z2, z3, z4, z5, z6⟩ k
    refine ⟨k _ _ n1 z1, z2.at fun o e => k _ o n2 e, z3.at fun o e => k _ o n3 e, z4.at fun o e => k _ o n4 e, z5.at fun o e => k _ o n5 e, ?_⟩
    rcases z6 with ⟨z, x, y, e⟩ | ⟨T, f, oT, z, e, r⟩
    · exact Or.inl ⟨k _ _ n6 z, x, y, k _ _ n7 e⟩
    · exact Or.inr ⟨T, f, oT, k _ _ n6 z, k _ _ r.2.2.2 e, r⟩
  item := by
    rintro m s Q E hm ⟨z1, z2, z3, z4, z5, z6⟩ hd hQ
    have ex := Array.getElem?_eq_getElem hm
    have ey := Array.getElem?_eq_getElem (show m < ys.size by omega)
    have far : ∀ {q : Addr} {o : Obj}, s.heap.get? q = some o → s.heap.objs.size ≠ q := fun e => Nat.ne_of_gt (Heap.lt_size e)
    have f2 : s.heap.objs.size ≠ i := let ⟨_, e, _⟩ := z2; far e
    have f3 : s.heap.objs.size ≠ j := let ⟨_, e, _⟩ := z3; far e
    have out4 : ∀ {q : Addr}, q ∉ [c, out, i, j] → q ≠ c ∧ q ≠ out ∧ q ≠ i ∧ q ≠ j := fun h => by simpa using h
    rcases z6 with ⟨z, x, y, e⟩ | ⟨T, f, oT, z, e, r⟩
    · refine RZ.pyNext_zipT_item D z z1 e z2 z3 z4 z5 ex ey fun g a1 a2 a3 a4 a5 a6 k => ?_
      refine hQ _ _ _ g s.toks ⟨ex, ey⟩ (Or.inl ⟨_, a5, rfl, _, rfl⟩) ⟨k _ _ D.TIz D.TITO D.TIi1 D.TIi2 z1, a3, a4, z4.at fun o q => k _ o D.l1z D.l1TO D.l1i1 D.l1i2 q, z5.at fun o q => k _ o D.l2z D.l2TO D.l2i1 D.l2i2 q, Or.inr ⟨_, false, _, a1, a5, far z, f2, f3, Nat.ne_of_gt hd⟩⟩ fun q o hq e => ?_
      have v := out4 hq
      exact k q o v.1 v.2.1 v.2.2.1 v.2.2.2 e
    · refine zipH_next hh D z e z1 z2 z3 z4 z5 (fun x y ex' ey' g a1 a3 a4 a5 k => ?_) fun hn => ?_
      · refine hQ _ _ _ g s.toks ⟨ex', ey'⟩ (Or.inl ⟨_, a5, rfl, _, rfl⟩) ⟨k _ _ D.TIz D.TIi1 D.TIi2 z1, a3, a4, z4.at fun o q => k _ o D.l1z D.l1i1 D.l1i2 q, z5.at fun o q => k _ o D.l2z D.l2i1 D.l2i2 q, Or.inr ⟨T, true, oT, a1, k _ _ r.1 r.2.1 r.2.2.1 e, r⟩⟩ fun q o hq e => ?_
        have v := out4 hq
        exact k q o v.1 v.2.2.1 v.2.2.2 e
      · rw [ex, ey] at hn
        rcases hn with hn | hn <;> cases hn
  done := by
    rintro s Q E ⟨z1, z2, z3, z4, z5, z6⟩ hQ
    have ex : xs[xs.size]? = none := Array.getElem?_eq_none (Nat.le_refl _)
    have out4 : ∀ {q : Addr}, q ∉ [c, out, i, j] → q ≠ c ∧ q ≠ out ∧ q ≠ i ∧ q ≠ j := fun h => by simpa using h
    rcases z6 with ⟨z, x, y, e⟩ | ⟨T, f, oT, z, e, r⟩
    · refine RZ.pyNext_zipT_end hh D z z1 e z2 z3 z4 z5 (Or.inl ex) fun g k => hQ g s.toks fun q o hq e => ?_
      have v := out4 hq
      exact k q o v.1 v.2.1 v.2.2.1 v.2.2.2 e
    · refine zipH_next hh D z e z1 z2 z3 z4 z5 (fun x y ex' => by rw [ex] at ex'; cases ex') fun _ g k => hQ g s.toks fun q o hq e => ?_
      have v := out4 hq
      exact k q o v.1 v.2.2.1 v.2.2.2 e
theorem zip_arg {c ti out i j a b : Addr} {xs ys : Array Value} (D : ZipApart c ti out i j a b) (hsz : xs.size = ys.size) :
    PairArg prog w "zip" c [c, ti, out, i, j, a, b] [c, out, i, j] xs.size (fun m k v => xs[m]? = some k ∧ ys[m]? = some v) (Zip0 c ti out i j a b xs ys) where
  type := fun s ⟨_, _, _, _, _, z, _⟩ => ⟨_, z, rfl⟩
  notDict := by decide
  keep := by
    rintro h g ⟨z1, z2, z3, z4, z5, z, x, y, e⟩ k
    exact ⟨k _ _ z1, z2.at fun o e => k _ o e, z3.at fun o e => k _ o e, z4.at fun o e => k _ o e, z5.at fun o e => k _ o e, k _ _ z, x, y, k _ _ e⟩
  there := by
    rintro h ⟨z1, ⟨_, z2, _⟩, ⟨_, z3, _⟩, ⟨_, z4, _⟩, ⟨_, z5, _⟩, z, x, y, e⟩ q hq
    simp only [List.mem_cons, List.not_mem_nil, or_false] at hq
    rcases hq with rfl | rfl | rfl | rfl | rfl | rfl | rfl
    · exact ⟨_, z⟩
    · exact ⟨_, z1⟩
    · exact ⟨_, e⟩
    · exact ⟨_, z2⟩
    · exact ⟨_, z3⟩
    · exact ⟨_, z4⟩
    · exact ⟨_, z5⟩
  sub := by
    intro q hq
    simp only [List.mem_cons, List.not_mem_nil, or_false] at hq ⊢
    rcases hq with rfl | rfl | rfl | rfl <;> simp
  noKeys := fun A s Q E hA ⟨_, _, _, _, _, z, _⟩ h => getAttrOr_miss_zip z rfl rfl rfl zip_no_keys (by decide +kernel) hA h
  iter := by
    rintro A s d Q E hA ⟨z1, z2, z3, z4, z5, z, x, y, e⟩ hd hn h
    simp only [List.mem_cons, List.not_mem_nil, or_false, not_or] at hn
    obtain ⟨n1, n2, n3, n4, n5, n6, n7⟩ := hn
    exact wpAny_pyIter_zip z (h c [c, out, i, j] _ s.heap s.toks (ZipS.src hA D hsz (Ne.symm n2) (Ne.symm n4) (Ne.symm n5) (Ne.symm n6) (Ne.symm n7) (Ne.symm n1) (Ne.symm n3)) ⟨z1, z2, z3, z4, z5, Or.inl ⟨z, x, y, e⟩⟩ (fun _ _ q => q) fun _ q => Or.inl q)
end
/-- dict(zip(s, t)): s as many keys as t has values -/
def tDictZ (K : PySem.W.Frag) (ta : TA) : TE := fun σ H Q => ta σ H fun vs H1 => ∃ (a b : Addr) (ks : List Key) (ys : List V), vs = [.ref a, .ref b] ∧ SqT K H1 a (ks.map kV) ∧ SqT K H1 b ys ∧ ks.length = ys.length ∧
  ∀ p, H1 p = none → Q (.ref p) (upd H1 p (.dK (mergeK [] (ks.zip ys))))
theorem kv_zip {P : Program} {w : World} : ∀ {ks : List Key} {ys : List V} {us rs : List Value}, Vals (ks.map kV) us → Vals ys rs → ks.length = ys.length → KV (ks.zip ys) (ks.zip rs) ∧ ∀ (m : Nat) (k v : Value), us[m]? = some k → rs[m]? = some v → ∃ r, (ks.zip rs)[m]? = some (r, v) ∧ (mixKind P w).is r k = true
  | [], ys, us, rs, r1, r2, hl => by
    cases ys with
    | nil => exact ⟨.nil, fun m k v e => by cases r1; simp at e⟩
    | cons y ys => cases hl
  | k :: ks, ys, us, rs, r1, r2, hl => by
    cases r1 with
    | cons q1 r1 =>
      cases r2 with
      | nil => cases hl
      | cons q2 r2 =>
        obtain ⟨i1, i2⟩ := kv_zip (P := P) (w := w) r1 r2 (Nat.succ.inj hl)
        refine ⟨.cons ⟨rfl, q2⟩ i1, fun m k' v e1 e2 => ?_⟩
        cases m with
        | zero =>
          cases Option.some.inj e1
          cases Option.some.inj e2
          exact ⟨k, rfl, kV_is q1⟩
        | succ m => exact i2 m k' v (by simpa using e1) (by simpa using e2)
theorem pe_dictZ {X : Cx} {K : PySem.W.Frag} (hK : X.K = K) {e e2 : Expr} {ta : TA} {p p2 q pos : Pos} (hg : Gl X "dict") (hm : X.mg "dict" = none) (hg2 : Gl X "zip") (hm2 : X.mg "zip" = none) (ha : PA X [e, e2] ta) (hc : X.calm = true := by rfl)
    (hs : starEach [e, e2] X.env = (false, eval e X.env) :: starEach [e2] X.env := by rfl) (hpl : (backTo q (starEach [e2] X.env)).any (·.1) = false := by rfl) :
    PE X (.Call (.Name "dict" p) [.Call (.Name "zip" p2) [e, e2] [] q] [] pos) (tDictZ K ta) := by
  subst hK
  refine ⟨fun pins s σ H Q I h => ?_⟩
  refine PyProof.Rows.Call_ (ld_blt I hg hm PyProof.Rows.boot_dict ?_)
  refine PyProof.Rows.callWith_type1 (PyProof.Rows.args_cons ?_ rfl) rfl rfl
  refine PyProof.Rows.Call_ (ld_blt I hg2 hm2 PyProof.Rows.boot_zip (PyProof.Rows.callWith_type1 (thn (ha.run q pins s σ H _ I h) fun us s1 ⟨vs, H1, I1, r1, q1⟩ => ?_) hs hpl))
  obtain ⟨a, b, ks, ys, ex, hqx, hqy, hl, q1⟩ := q1
  subst ex
  obtain ⟨u1, u2, eu, v1, v2⟩ := vals2 r1
  subst eu
  cases v1
  cases v2
  obtain ⟨its, rv, p1, hz⟩ := I1.tuple hqx
  obtain ⟨its2, rv2, p2, _⟩ := I1.tuple hqy
  obtain ⟨o1, ho1, _⟩ := id p1
  obtain ⟨o2, ho2, _⟩ := id p2
  obtain ⟨rel, hits⟩ := kv_zip (P := X.prog) (w := X.w) rv rv2 hl
  have l1 := rv.length
  have l2 := rv2.length
  rw [List.length_map] at l1 hz
  refine RZ.call_zipT (show s1.heap.IsTuple a its.toArray from p1) (show s1.heap.IsTuple b its2.toArray from p2) fun h' hz' hTI hTO h1 h2 hsz hk => ?_
  refine PyProof.Rows.args_nil ?_
  have D := PySem.W.ktu_apart s1.heap.objs.size a b (Heap.lt_size ho1) (Heap.lt_size ho2)
  refine PySem.call_dict_pairs (s := { s1 with heap := h' }) (knd := mixKind X.prog X.w) (kvs := ks.zip its2) (zip_arg (xs := its.toArray) (ys := its2.toArray) D (by simp only [List.size_toArray]; omega)) (I1.ok.hd hc)
    ⟨hTI, h1, h2, (show s1.heap.IsTuple a its.toArray from p1).at fun o e => hk _ o e, (show s1.heap.IsTuple b its2.toArray from p2).at fun o e => hk _ o e, hz', _, _, hTO⟩
    ⟨by rw [List.length_zip, List.size_toArray]; omega, fun m k v e => hits m k v (by simpa using e.1) (by simpa using e.2)⟩ (by rw [List.size_toArray]; omega) fun g tk hd kp => ?_
  have big : s1.heap.objs.size ≤ h'.objs.size := by omega
  have hm : (h'.objs.size == sysModules) = false := beq_eq_false_iff_ne.mpr (Nat.ne_of_gt (Nat.lt_of_lt_of_le I1.big big))
  have hlen : (mergeK [] (ks.zip ys)).length ≤ sizeLine := by
    have z := length_mergeK (ks.zip ys) []
    rw [List.length_nil, List.length_zip] at z
    omega
  have old : ∀ c o, s1.heap.get? c = some o → g.get? c = some o := fun c o z => kp c o (by
    have lt := Heap.lt_size z
    simp only [List.mem_cons, List.not_mem_nil, or_false, not_or]
    exact ⟨Nat.ne_of_lt (Nat.lt_of_lt_of_le lt (Nat.le_add_right _ _)), Nat.ne_of_lt (Nat.lt_of_lt_of_le lt (Nat.le_add_right _ _)), Nat.ne_of_lt lt, Nat.ne_of_lt (Nat.lt_of_lt_of_le lt (Nat.le_add_right _ _))⟩) (hk c o z)
  exact ⟨.ref h'.objs.size, _, I1.laid (o := .dK (mergeK [] (ks.zip ys))) (t' := tk) old big ⟨hlen, hm, merged [] (ks.zip its2), KV.merge rel .nil, hd⟩, rfl, q1 _ (I1.hok.fresh big)⟩
end NL

namespace K11
open PySem L2 Evl NL
def top (i : Nat) : Stmt := PySem.Challenge.pw_nearlocks_k11_how_a_house_begins.main.body.getD i (.Pass ⟨0, 0, 0, 0⟩)
abbrev s_within_of : Stmt := top 3
abbrev s_is_whole : Stmt := top 14
abbrev s_is_whole_from : Stmt := top 15
abbrev s_is_tuple_of : Stmt := top 16
abbrev s_is_known : Stmt := top 17
abbrev s_is_letters : Stmt := top 20
abbrev s_is_name : Stmt := top 24
abbrev s_is_plan : Stmt := top 25
abbrev s_member_fits : Stmt := top 26
abbrev s_has_group_form : Stmt := top 27
abbrev s_hands_of : Stmt := top 28
abbrev s_groups_of : Stmt := top 29
abbrev s_bounds_of : Stmt := top 30
abbrev s_all_in : Stmt := top 31
abbrev s_all_from : Stmt := top 32
abbrev s_is_row_number : Stmt := top 35
abbrev s_word_fits : Stmt := top 36
abbrev s_take_fits : Stmt := top 37
abbrev s_say_fits : Stmt := top 38
abbrev s_goto_fits : Stmt := top 39
abbrev s_if_fits : Stmt := top 40
abbrev s_is_program : Stmt := top 42
abbrev s_row_fits : Stmt := top 43
abbrev s_is_book : Stmt := top 44
abbrev s_pair_fits : Stmt := top 45
abbrev s__law_box : Stmt := top 82
abbrev s__law_take : Stmt := top 83
abbrev s__law_group : Stmt := top 84
abbrev s__law_plan : Stmt := top 85
abbrev s__law_parts : Stmt := top 86
abbrev s__law_hands : Stmt := top 87
abbrev s__law_row : Stmt := top 88
abbrev s__law_program : Stmt := top 89
abbrev s__law_book : Stmt := top 90
abbrev s_law : Stmt := top 91
abbrev s_House___init__ : Stmt := inClass (top 80) 0
abbrev s_House_hand : Stmt := inClass (top 80) 1
abbrev s_House_group : Stmt := inClass (top 80) 2
abbrev s_House_within : Stmt := inClass (top 80) 3
abbrev s_House___len__ : Stmt := inClass (top 80) 7
abbrev N_within_of : List Str := ["hands", "name", "row", "last", "how", "looks"]
theorem sc_within_of : FnScope N_within_of ["hands"] (defScope s_within_of) := ⟨rfl, rfl, rfl, by decide +kernel, rfl, by decide +kernel, by decide +kernel⟩
abbrev N_is_whole : List Str := ["thing"]
theorem sc_is_whole : FnScope N_is_whole ["thing"] (defScope s_is_whole) := ⟨rfl, rfl, rfl, by decide +kernel, rfl, by decide +kernel, by decide +kernel⟩
abbrev N_is_whole_from : List Str := ["thing", "least"]
theorem sc_is_whole_from : FnScope N_is_whole_from ["thing", "least"] (defScope s_is_whole_from) := ⟨rfl, rfl, rfl, by decide +kernel, rfl, by decide +kernel, by decide +kernel⟩
abbrev N_is_tuple_of : List Str := ["thing", "many"]
theorem sc_is_tuple_of : FnScope N_is_tuple_of ["thing", "many"] (defScope s_is_tuple_of) := ⟨rfl, rfl, rfl, by decide +kernel, rfl, by decide +kernel, by decide +kernel⟩
abbrev N_is_known : List Str := ["thing", "names"]
theorem sc_is_known : FnScope N_is_known ["thing", "names"] (defScope s_is_known) := ⟨rfl, rfl, rfl, by decide +kernel, rfl, by decide +kernel, by decide +kernel⟩
abbrev N_is_letters : List Str := ["word", "sign"]
theorem sc_is_letters : FnScope N_is_letters ["word"] (defScope s_is_letters) := ⟨rfl, rfl, rfl, by decide +kernel, rfl, by decide +kernel, by decide +kernel⟩
abbrev N_is_name : List Str := ["thing"]
theorem sc_is_name : FnScope N_is_name ["thing"] (defScope s_is_name) := ⟨rfl, rfl, rfl, by decide +kernel, rfl, by decide +kernel, by decide +kernel⟩
abbrev N_is_plan : List Str := ["thing", "seen", "waiting", "member"]
theorem sc_is_plan : FnScope N_is_plan ["thing"] (defScope s_is_plan) := ⟨rfl, rfl, rfl, by decide +kernel, rfl, by decide +kernel, by decide +kernel⟩
abbrev N_member_fits : List Str := ["thing", "seen", "name"]
theorem sc_member_fits : FnScope N_member_fits ["thing", "seen"] (defScope s_member_fits) := ⟨rfl, rfl, rfl, by decide +kernel, rfl, by decide +kernel, by decide +kernel⟩
abbrev N_has_group_form : List Str := ["thing", "name", "bound", "members"]
theorem sc_has_group_form : FnScope N_has_group_form ["thing"] (defScope s_has_group_form) := ⟨rfl, rfl, rfl, by decide +kernel, rfl, by decide +kernel, by decide +kernel⟩
abbrev N_hands_of : List Str := ["plan", "name", "bound", "path"]
theorem sc_hands_of : FnScope N_hands_of ["plan"] (defScope s_hands_of) := ⟨rfl, rfl, rfl, by decide +kernel, rfl, by decide +kernel, by decide +kernel⟩
abbrev N_groups_of : List Str := ["plan", "name", "bound", "path"]
theorem sc_groups_of : FnScope N_groups_of ["plan"] (defScope s_groups_of) := ⟨rfl, rfl, rfl, by decide +kernel, rfl, by decide +kernel, by decide +kernel⟩
abbrev N_bounds_of : List Str := ["plan", "name", "bound", "path"]
theorem sc_bounds_of : FnScope N_bounds_of ["plan"] (defScope s_bounds_of) := ⟨rfl, rfl, rfl, by decide +kernel, rfl, by decide +kernel, by decide +kernel⟩
abbrev N_all_in : List Str := ["plan"]
theorem sc_all_in : FnScope N_all_in ["plan"] (defScope s_all_in) := ⟨rfl, rfl, rfl, by decide +kernel, rfl, by decide +kernel, by decide +kernel⟩
abbrev N_all_from : List Str := ["group", "around", "name", "bound", "members", "rows", "inside", "member"]
theorem sc_all_from : FnScope N_all_from ["group", "around"] (defScope s_all_from) := ⟨rfl, rfl, rfl, by decide +kernel, rfl, by decide +kernel, by decide +kernel⟩
abbrev N_is_row_number : List Str := ["thing", "many"]
theorem sc_is_row_number : FnScope N_is_row_number ["thing", "many"] (defScope s_is_row_number) := ⟨rfl, rfl, rfl, by decide +kernel, rfl, by decide +kernel, by decide +kernel⟩
abbrev N_word_fits : List Str := ["row", "many"]
theorem sc_word_fits : FnScope N_word_fits ["row", "many"] (defScope s_word_fits) := ⟨rfl, rfl, rfl, by decide +kernel, rfl, by decide +kernel, by decide +kernel⟩
abbrev N_take_fits : List Str := ["row", "many"]
theorem sc_take_fits : FnScope N_take_fits ["row", "many"] (defScope s_take_fits) := ⟨rfl, rfl, rfl, by decide +kernel, rfl, by decide +kernel, by decide +kernel⟩
abbrev N_say_fits : List Str := ["row", "many"]
theorem sc_say_fits : FnScope N_say_fits ["row", "many"] (defScope s_say_fits) := ⟨rfl, rfl, rfl, by decide +kernel, rfl, by decide +kernel, by decide +kernel⟩
abbrev N_goto_fits : List Str := ["row", "many"]
theorem sc_goto_fits : FnScope N_goto_fits ["row", "many"] (defScope s_goto_fits) := ⟨rfl, rfl, rfl, by decide +kernel, rfl, by decide +kernel, by decide +kernel⟩
abbrev N_if_fits : List Str := ["row", "many"]
theorem sc_if_fits : FnScope N_if_fits ["row", "many"] (defScope s_if_fits) := ⟨rfl, rfl, rfl, by decide +kernel, rfl, by decide +kernel, by decide +kernel⟩
abbrev N_is_program : List Str := ["thing", "row"]
theorem sc_is_program : FnScope N_is_program ["thing"] (defScope s_is_program) := ⟨rfl, rfl, rfl, by decide +kernel, rfl, by decide +kernel, by decide +kernel⟩
abbrev N_row_fits : List Str := ["row", "many", "word", "fits"]
theorem sc_row_fits : FnScope N_row_fits ["row", "many"] (defScope s_row_fits) := ⟨rfl, rfl, rfl, by decide +kernel, rfl, by decide +kernel, by decide +kernel⟩
abbrev N_is_book : List Str := ["plan", "thing", "name", "program", "pair"]
theorem sc_is_book : FnScope N_is_book ["plan", "thing"] (defScope s_is_book) := ⟨rfl, rfl, rfl, by decide +kernel, rfl, by decide +kernel, by decide +kernel⟩
abbrev N_pair_fits : List Str := ["pair"]
theorem sc_pair_fits : FnScope N_pair_fits ["pair"] (defScope s_pair_fits) := ⟨rfl, rfl, rfl, by decide +kernel, rfl, by decide +kernel, by decide +kernel⟩
abbrev N__law_box : List Str := ["_law_script", "_law_k", "_law_cell", "_law_mixed"]
theorem sc__law_box : FnScope N__law_box ["_law_script", "_law_k"] (defScope s__law_box) := ⟨rfl, rfl, rfl, by decide +kernel, rfl, by decide +kernel, by decide +kernel⟩
abbrev N__law_take : List Str := ["_law_box_here", "_law_many", "_law_mixed", "_law_digit"]
theorem sc__law_take : FnScope N__law_take ["_law_box_here", "_law_many"] (defScope s__law_take) := ⟨rfl, rfl, rfl, by decide +kernel, rfl, by decide +kernel, by decide +kernel⟩
abbrev N__law_group : List Str := ["_law_box_here", "_law_pool", "_law_deep", "_law_name", "_law_bound", "_law_members", "_law_k"]
theorem sc__law_group : FnScope N__law_group ["_law_box_here", "_law_pool", "_law_deep"] (defScope s__law_group) := ⟨rfl, rfl, rfl, by decide +kernel, rfl, by decide +kernel, by decide +kernel⟩
abbrev N__law_plan : List Str := ["_law_box_here", "_law_letters", "_law_start", "_law_by", "_law_pool", "_law_k"]
theorem sc__law_plan : FnScope N__law_plan ["_law_box_here"] (defScope s__law_plan) := ⟨rfl, rfl, rfl, by decide +kernel, rfl, by decide +kernel, by decide +kernel⟩
abbrev N__law_parts : List Str := ["_law_group_here", "_law_around", "_law_found", "_law_member"]
theorem sc__law_parts : FnScope N__law_parts ["_law_group_here", "_law_around"] (defScope s__law_parts) := ⟨rfl, rfl, rfl, by decide +kernel, rfl, by decide +kernel, by decide +kernel⟩
abbrev N__law_hands : List Str := ["_law_plan_here", "_law_name", "_law_around", "_law_bound"]
theorem sc__law_hands : FnScope N__law_hands ["_law_plan_here"] (defScope s__law_hands) := ⟨rfl, rfl, rfl, by decide +kernel, rfl, by decide +kernel, by decide +kernel⟩
abbrev N__law_row : List Str := ["_law_box_here", "_law_size", "_law_way", "_law_at"]
theorem sc__law_row : FnScope N__law_row ["_law_box_here", "_law_size"] (defScope s__law_row) := ⟨rfl, rfl, rfl, by decide +kernel, rfl, by decide +kernel, by decide +kernel⟩
abbrev N__law_program : List Str := ["_law_box_here", "_law_way", "_law_looks", "_law_size", "_law_k"]
theorem sc__law_program : FnScope N__law_program ["_law_box_here"] (defScope s__law_program) := ⟨rfl, rfl, rfl, by decide +kernel, rfl, by decide +kernel, by decide +kernel⟩
abbrev N__law_book : List Str := ["_law_box_here", "_law_plan_here", "_law_name"]
theorem sc__law_book : FnScope N__law_book ["_law_box_here", "_law_plan_here"] (defScope s__law_book) := ⟨rfl, rfl, rfl, by decide +kernel, rfl, by decide +kernel, by decide +kernel⟩
abbrev N_law : List Str := ["_law_script", "_law_k", "_law_box_here", "_law_plan_here", "_law_book_here", "_law_kept", "_law_house", "_law_name", "_law_around", "_law_bound", "_law_found"]
theorem sc_law : FnScope N_law ["_law_script"] (defScope s_law) := ⟨rfl, rfl, rfl, by decide +kernel, rfl, by decide +kernel, by decide +kernel⟩
abbrev N_House___init__ : List Str := ["self", "plan", "book", "name", "bound", "path"]
theorem sc_House___init__ : FnScope N_House___init__ ["self", "plan", "book"] (defScope s_House___init__) := ⟨rfl, rfl, rfl, by decide +kernel, rfl, by decide +kernel, by decide +kernel⟩
abbrev N_House_hand : List Str := ["self", "name"]
theorem sc_House_hand : FnScope N_House_hand ["self", "name"] (defScope s_House_hand) := ⟨rfl, rfl, rfl, by decide +kernel, rfl, by decide +kernel, by decide +kernel⟩
abbrev N_House_group : List Str := ["self", "name"]
theorem sc_House_group : FnScope N_House_group ["self", "name"] (defScope s_House_group) := ⟨rfl, rfl, rfl, by decide +kernel, rfl, by decide +kernel, by decide +kernel⟩
abbrev N_House_within : List Str := ["self"]
theorem sc_House_within : FnScope N_House_within ["self"] (defScope s_House_within) := ⟨rfl, rfl, rfl, by decide +kernel, rfl, by decide +kernel, by decide +kernel⟩
abbrev N_House___len__ : List Str := ["self", "name"]
theorem sc_House___len__ : FnScope N_House___len__ ["self"] (defScope s_House___len__) := ⟨rfl, rfl, rfl, by decide +kernel, rfl, by decide +kernel, by decide +kernel⟩
/-! ### the facts of the top -/
structure Tp (w : World) (K : PySem.W.Frag) (mg : Str → Option Value) where
  C_House : Addr
  cl_House : Cls K C_House
  mc_House : mg "House" = some (.ref C_House)
  na_House_plan : NoAttr K C_House "plan"
  na_House_book : NoAttr K C_House "book"
  na_House_paths : NoAttr K C_House "paths"
  na_House_bounds : NoAttr K C_House "bounds"
  na_House_programs : NoAttr K C_House "programs"
  na_House_hands : NoAttr K C_House "hands"
  na_House_groups : NoAttr K C_House "groups"
  f_within_of : Addr
  d_within_of : FuncData
  F_within_of : Fun K "within_of" "within_of" s_within_of f_within_of d_within_of
  m_within_of : mg "within_of" = some (.ref f_within_of)
  f_is_whole : Addr
  d_is_whole : FuncData
  F_is_whole : Fun K "is_whole" "is_whole" s_is_whole f_is_whole d_is_whole
  m_is_whole : mg "is_whole" = some (.ref f_is_whole)
  f_is_whole_from : Addr
  d_is_whole_from : FuncData
  F_is_whole_from : Fun K "is_whole_from" "is_whole_from" s_is_whole_from f_is_whole_from d_is_whole_from
  m_is_whole_from : mg "is_whole_from" = some (.ref f_is_whole_from)
  f_is_tuple_of : Addr
  d_is_tuple_of : FuncData
  F_is_tuple_of : Fun K "is_tuple_of" "is_tuple_of" s_is_tuple_of f_is_tuple_of d_is_tuple_of
  m_is_tuple_of : mg "is_tuple_of" = some (.ref f_is_tuple_of)
  f_is_known : Addr
  d_is_known : FuncData
  F_is_known : Fun K "is_known" "is_known" s_is_known f_is_known d_is_known
  m_is_known : mg "is_known" = some (.ref f_is_known)
  f_is_letters : Addr
  d_is_letters : FuncData
  F_is_letters : Fun K "is_letters" "is_letters" s_is_letters f_is_letters d_is_letters
  m_is_letters : mg "is_letters" = some (.ref f_is_letters)
  f_is_name : Addr
  d_is_name : FuncData
  F_is_name : Fun K "is_name" "is_name" s_is_name f_is_name d_is_name
  m_is_name : mg "is_name" = some (.ref f_is_name)
  f_is_plan : Addr
  d_is_plan : FuncData
  F_is_plan : Fun K "is_plan" "is_plan" s_is_plan f_is_plan d_is_plan
  m_is_plan : mg "is_plan" = some (.ref f_is_plan)
  f_member_fits : Addr
  d_member_fits : FuncData
  F_member_fits : Fun K "member_fits" "member_fits" s_member_fits f_member_fits d_member_fits
  m_member_fits : mg "member_fits" = some (.ref f_member_fits)
  f_has_group_form : Addr
  d_has_group_form : FuncData
  F_has_group_form : Fun K "has_group_form" "has_group_form" s_has_group_form f_has_group_form d_has_group_form
  m_has_group_form : mg "has_group_form" = some (.ref f_has_group_form)
  f_hands_of : Addr
  d_hands_of : FuncData
  F_hands_of : Fun K "hands_of" "hands_of" s_hands_of f_hands_of d_hands_of
  m_hands_of : mg "hands_of" = some (.ref f_hands_of)
  f_groups_of : Addr
  d_groups_of : FuncData
  F_groups_of : Fun K "groups_of" "groups_of" s_groups_of f_groups_of d_groups_of
  m_groups_of : mg "groups_of" = some (.ref f_groups_of)
  f_bounds_of : Addr
  d_bounds_of : FuncData
  F_bounds_of : Fun K "bounds_of" "bounds_of" s_bounds_of f_bounds_of d_bounds_of
  m_bounds_of : mg "bounds_of" = some (.ref f_bounds_of)
  f_all_in : Addr
  d_all_in : FuncData
  F_all_in : Fun K "all_in" "all_in" s_all_in f_all_in d_all_in
  m_all_in : mg "all_in" = some (.ref f_all_in)
  f_all_from : Addr
  d_all_from : FuncData
  F_all_from : Fun K "all_from" "all_from" s_all_from f_all_from d_all_from
  m_all_from : mg "all_from" = some (.ref f_all_from)
  f_is_row_number : Addr
  d_is_row_number : FuncData
  F_is_row_number : Fun K "is_row_number" "is_row_number" s_is_row_number f_is_row_number d_is_row_number
  m_is_row_number : mg "is_row_number" = some (.ref f_is_row_number)
  f_word_fits : Addr
  d_word_fits : FuncData
  F_word_fits : Fun K "word_fits" "word_fits" s_word_fits f_word_fits d_word_fits
  m_word_fits : mg "word_fits" = some (.ref f_word_fits)
  f_take_fits : Addr
  d_take_fits : FuncData
  F_take_fits : Fun K "take_fits" "take_fits" s_take_fits f_take_fits d_take_fits
  m_take_fits : mg "take_fits" = some (.ref f_take_fits)
  f_say_fits : Addr
  d_say_fits : FuncData
  F_say_fits : Fun K "say_fits" "say_fits" s_say_fits f_say_fits d_say_fits
  m_say_fits : mg "say_fits" = some (.ref f_say_fits)
  f_goto_fits : Addr
  d_goto_fits : FuncData
  F_goto_fits : Fun K "goto_fits" "goto_fits" s_goto_fits f_goto_fits d_goto_fits
  m_goto_fits : mg "goto_fits" = some (.ref f_goto_fits)
  f_if_fits : Addr
  d_if_fits : FuncData
  F_if_fits : Fun K "if_fits" "if_fits" s_if_fits f_if_fits d_if_fits
  m_if_fits : mg "if_fits" = some (.ref f_if_fits)
  f_is_program : Addr
  d_is_program : FuncData
  F_is_program : Fun K "is_program" "is_program" s_is_program f_is_program d_is_program
  m_is_program : mg "is_program" = some (.ref f_is_program)
  f_row_fits : Addr
  d_row_fits : FuncData
  F_row_fits : Fun K "row_fits" "row_fits" s_row_fits f_row_fits d_row_fits
  m_row_fits : mg "row_fits" = some (.ref f_row_fits)
  f_is_book : Addr
  d_is_book : FuncData
  F_is_book : Fun K "is_book" "is_book" s_is_book f_is_book d_is_book
  m_is_book : mg "is_book" = some (.ref f_is_book)
  f_pair_fits : Addr
  d_pair_fits : FuncData
  F_pair_fits : Fun K "pair_fits" "pair_fits" s_pair_fits f_pair_fits d_pair_fits
  m_pair_fits : mg "pair_fits" = some (.ref f_pair_fits)
  f__law_box : Addr
  d__law_box : FuncData
  F__law_box : Fun K "_law_box" "_law_box" s__law_box f__law_box d__law_box
  m__law_box : mg "_law_box" = some (.ref f__law_box)
  f__law_take : Addr
  d__law_take : FuncData
  F__law_take : Fun K "_law_take" "_law_take" s__law_take f__law_take d__law_take
  m__law_take : mg "_law_take" = some (.ref f__law_take)
  f__law_group : Addr
  d__law_group : FuncData
  F__law_group : Fun K "_law_group" "_law_group" s__law_group f__law_group d__law_group
  m__law_group : mg "_law_group" = some (.ref f__law_group)
  f__law_plan : Addr
  d__law_plan : FuncData
  F__law_plan : Fun K "_law_plan" "_law_plan" s__law_plan f__law_plan d__law_plan
  m__law_plan : mg "_law_plan" = some (.ref f__law_plan)
  f__law_parts : Addr
  d__law_parts : FuncData
  F__law_parts : Fun K "_law_parts" "_law_parts" s__law_parts f__law_parts d__law_parts
  m__law_parts : mg "_law_parts" = some (.ref f__law_parts)
  f__law_hands : Addr
  d__law_hands : FuncData
  F__law_hands : Fun K "_law_hands" "_law_hands" s__law_hands f__law_hands d__law_hands
  m__law_hands : mg "_law_hands" = some (.ref f__law_hands)
  f__law_row : Addr
  d__law_row : FuncData
  F__law_row : Fun K "_law_row" "_law_row" s__law_row f__law_row d__law_row
  m__law_row : mg "_law_row" = some (.ref f__law_row)
  f__law_program : Addr
  d__law_program : FuncData
  F__law_program : Fun K "_law_program" "_law_program" s__law_program f__law_program d__law_program
  m__law_program : mg "_law_program" = some (.ref f__law_program)
  f__law_book : Addr
  d__law_book : FuncData
  F__law_book : Fun K "_law_book" "_law_book" s__law_book f__law_book d__law_book
  m__law_book : mg "_law_book" = some (.ref f__law_book)
  f_law : Addr
  d_law : FuncData
  F_law : Fun K "law" "law" s_law f_law d_law
  m_law : mg "law" = some (.ref f_law)
  f_House___init__ : Addr
  d_House___init__ : FuncData
  F_House___init__ : Fun K "__init__" "House.__init__" s_House___init__ f_House___init__ d_House___init__
  mt_House___init__ : Meth K C_House "__init__" f_House___init__
  mk_House : Mk K C_House f_House___init__
  f_House_hand : Addr
  d_House_hand : FuncData
  F_House_hand : Fun K "hand" "House.hand" s_House_hand f_House_hand d_House_hand
  mt_House_hand : Meth K C_House "hand" f_House_hand
  f_House_group : Addr
  d_House_group : FuncData
  F_House_group : Fun K "group" "House.group" s_House_group f_House_group d_House_group
  mt_House_group : Meth K C_House "group" f_House_group
  f_House_within : Addr
  d_House_within : FuncData
  F_House_within : Fun K "within" "House.within" s_House_within f_House_within d_House_within
  mt_House_within : Meth K C_House "within" f_House_within
  f_House___len__ : Addr
  d_House___len__ : FuncData
  F_House___len__ : Fun K "__len__" "House.__len__" s_House___len__ f_House___len__ d_House___len__
  mt_House___len__ : Meth K C_House "__len__" f_House___len__
  z_abs : mg "abs" = none
  z_all : mg "all" = none
  z_bool : mg "bool" = none
  z_dict : mg "dict" = none
  z_int : mg "int" = none
  z_isinstance : mg "isinstance" = none
  z_len : mg "len" = none
  z_range : mg "range" = none
  z_repr : mg "repr" = none
  z_sorted : mg "sorted" = none
  z_str : mg "str" = none
  z_tuple : mg "tuple" = none
  z_zip : mg "zip" = none
  t_MOST_SAID : Tok
  c_MOST_SAID : mg "MOST_SAID" = some (.int 99 t_MOST_SAID)
  a_FORMS : Addr
  c_FORMS : mg "FORMS" = some (.ref a_FORMS)
  D_FORMS : KTab K w a_FORMS (fun z => if z = "take" then some (.ref f_take_fits) else if z = "try" then some (.ref f_word_fits) else if z = "let" then some (.ref f_word_fits) else if z = "say" then some (.ref f_say_fits) else if z = "goto" then some (.ref f_goto_fits) else if z = "if" then some (.ref f_if_fits) else none)
  nd : [f_take_fits, f_word_fits, f_say_fits, f_goto_fits, f_if_fits].Nodup
  t_LETTERS : Tok
  c_LETTERS : mg "LETTERS" = some (.str "abcdefghijklmnopqrstuvwxyz" t_LETTERS)
  t_LONGEST : Tok
  c_LONGEST : mg "LONGEST_NAME" = some (.int 8 t_LONGEST)
  t_LEAST : Tok
  c_LEAST : mg "LEAST_BOUND" = some (.int 1 t_LEAST)
theorem b_within_of {w : World} {K : PySem.W.Frag} {mg : Str → Option Value} (T : Tp w K mg) : Binds K T.d_within_of ["hands"] [] := T.F_within_of.binds fun _ _ _ _ _ _ us hl => match us, hl with | [_], _ => rfl
theorem b_is_whole {w : World} {K : PySem.W.Frag} {mg : Str → Option Value} (T : Tp w K mg) : Binds K T.d_is_whole ["thing"] [] := T.F_is_whole.binds fun _ _ _ _ _ _ us hl => match us, hl with | [_], _ => rfl
theorem b_is_whole_from {w : World} {K : PySem.W.Frag} {mg : Str → Option Value} (T : Tp w K mg) : Binds K T.d_is_whole_from ["thing", "least"] [] := T.F_is_whole_from.binds fun _ _ _ _ _ _ us hl => match us, hl with | [_, _], _ => rfl
theorem b_is_tuple_of {w : World} {K : PySem.W.Frag} {mg : Str → Option Value} (T : Tp w K mg) : Binds K T.d_is_tuple_of ["thing", "many"] [] := T.F_is_tuple_of.binds fun _ _ _ _ _ _ us hl => match us, hl with | [_, _], _ => rfl
theorem b_is_known {w : World} {K : PySem.W.Frag} {mg : Str → Option Value} (T : Tp w K mg) : Binds K T.d_is_known ["thing", "names"] [] := T.F_is_known.binds fun _ _ _ _ _ _ us hl => match us, hl with | [_, _], _ => rfl
theorem b_is_letters {w : World} {K : PySem.W.Frag} {mg : Str → Option Value} (T : Tp w K mg) : Binds K T.d_is_letters ["word"] [] := T.F_is_letters.binds fun _ _ _ _ _ _ us hl => match us, hl with | [_], _ => rfl
theorem b_is_name {w : World} {K : PySem.W.Frag} {mg : Str → Option Value} (T : Tp w K mg) : Binds K T.d_is_name ["thing"] [] := T.F_is_name.binds fun _ _ _ _ _ _ us hl => match us, hl with | [_], _ => rfl
theorem b_is_plan {w : World} {K : PySem.W.Frag} {mg : Str → Option Value} (T : Tp w K mg) : Binds K T.d_is_plan ["thing"] [] := T.F_is_plan.binds fun _ _ _ _ _ _ us hl => match us, hl with | [_], _ => rfl
theorem b_member_fits {w : World} {K : PySem.W.Frag} {mg : Str → Option Value} (T : Tp w K mg) : Binds K T.d_member_fits ["thing", "seen"] [] := T.F_member_fits.binds fun _ _ _ _ _ _ us hl => match us, hl with | [_, _], _ => rfl
theorem b_has_group_form {w : World} {K : PySem.W.Frag} {mg : Str → Option Value} (T : Tp w K mg) : Binds K T.d_has_group_form ["thing"] [] := T.F_has_group_form.binds fun _ _ _ _ _ _ us hl => match us, hl with | [_], _ => rfl
theorem b_hands_of {w : World} {K : PySem.W.Frag} {mg : Str → Option Value} (T : Tp w K mg) : Binds K T.d_hands_of ["plan"] [] := T.F_hands_of.binds fun _ _ _ _ _ _ us hl => match us, hl with | [_], _ => rfl
theorem b_groups_of {w : World} {K : PySem.W.Frag} {mg : Str → Option Value} (T : Tp w K mg) : Binds K T.d_groups_of ["plan"] [] := T.F_groups_of.binds fun _ _ _ _ _ _ us hl => match us, hl with | [_], _ => rfl
theorem b_bounds_of {w : World} {K : PySem.W.Frag} {mg : Str → Option Value} (T : Tp w K mg) : Binds K T.d_bounds_of ["plan"] [] := T.F_bounds_of.binds fun _ _ _ _ _ _ us hl => match us, hl with | [_], _ => rfl
theorem b_all_in {w : World} {K : PySem.W.Frag} {mg : Str → Option Value} (T : Tp w K mg) : Binds K T.d_all_in ["plan"] [] := T.F_all_in.binds fun _ _ _ _ _ _ us hl => match us, hl with | [_], _ => rfl
theorem b_all_from {w : World} {K : PySem.W.Frag} {mg : Str → Option Value} (T : Tp w K mg) : Binds K T.d_all_from ["group", "around"] [] := T.F_all_from.binds fun _ _ _ _ _ _ us hl => match us, hl with | [_, _], _ => rfl
theorem b_is_row_number {w : World} {K : PySem.W.Frag} {mg : Str → Option Value} (T : Tp w K mg) : Binds K T.d_is_row_number ["thing", "many"] [] := T.F_is_row_number.binds fun _ _ _ _ _ _ us hl => match us, hl with | [_, _], _ => rfl
theorem b_word_fits {w : World} {K : PySem.W.Frag} {mg : Str → Option Value} (T : Tp w K mg) : Binds K T.d_word_fits ["row", "many"] [] := T.F_word_fits.binds fun _ _ _ _ _ _ us hl => match us, hl with | [_, _], _ => rfl
theorem b_take_fits {w : World} {K : PySem.W.Frag} {mg : Str → Option Value} (T : Tp w K mg) : Binds K T.d_take_fits ["row", "many"] [] := T.F_take_fits.binds fun _ _ _ _ _ _ us hl => match us, hl with | [_, _], _ => rfl
theorem b_say_fits {w : World} {K : PySem.W.Frag} {mg : Str → Option Value} (T : Tp w K mg) : Binds K T.d_say_fits ["row", "many"] [] := T.F_say_fits.binds fun _ _ _ _ _ _ us hl => match us, hl with | [_, _], _ => rfl
theorem b_goto_fits {w : World} {K : PySem.W.Frag} {mg : Str → Option Value} (T : Tp w K mg) : Binds K T.d_goto_fits ["row", "many"] [] := T.F_goto_fits.binds fun _ _ _ _ _ _ us hl => match us, hl with | [_, _], _ => rfl
theorem b_if_fits {w : World} {K : PySem.W.Frag} {mg : Str → Option Value} (T : Tp w K mg) : Binds K T.d_if_fits ["row", "many"] [] := T.F_if_fits.binds fun _ _ _ _ _ _ us hl => match us, hl with | [_, _], _ => rfl
theorem b_is_program {w : World} {K : PySem.W.Frag} {mg : Str → Option Value} (T : Tp w K mg) : Binds K T.d_is_program ["thing"] [] := T.F_is_program.binds fun _ _ _ _ _ _ us hl => match us, hl with | [_], _ => rfl
theorem b_row_fits {w : World} {K : PySem.W.Frag} {mg : Str → Option Value} (T : Tp w K mg) : Binds K T.d_row_fits ["row", "many"] [] := T.F_row_fits.binds fun _ _ _ _ _ _ us hl => match us, hl with | [_, _], _ => rfl
theorem b_is_book {w : World} {K : PySem.W.Frag} {mg : Str → Option Value} (T : Tp w K mg) : Binds K T.d_is_book ["plan", "thing"] [] := T.F_is_book.binds fun _ _ _ _ _ _ us hl => match us, hl with | [_, _], _ => rfl
theorem b_pair_fits {w : World} {K : PySem.W.Frag} {mg : Str → Option Value} (T : Tp w K mg) : Binds K T.d_pair_fits ["pair"] [] := T.F_pair_fits.binds fun _ _ _ _ _ _ us hl => match us, hl with | [_], _ => rfl
theorem b__law_box {w : World} {K : PySem.W.Frag} {mg : Str → Option Value} (T : Tp w K mg) : Binds K T.d__law_box ["_law_script", "_law_k"] [] := T.F__law_box.binds fun _ _ _ _ _ _ us hl => match us, hl with | [_, _], _ => rfl
theorem b__law_take {w : World} {K : PySem.W.Frag} {mg : Str → Option Value} (T : Tp w K mg) : Binds K T.d__law_take ["_law_box_here", "_law_many"] [] := T.F__law_take.binds fun _ _ _ _ _ _ us hl => match us, hl with | [_, _], _ => rfl
theorem b__law_group {w : World} {K : PySem.W.Frag} {mg : Str → Option Value} (T : Tp w K mg) : Binds K T.d__law_group ["_law_box_here", "_law_pool", "_law_deep"] [] := T.F__law_group.binds fun _ _ _ _ _ _ us hl => match us, hl with | [_, _, _], _ => rfl
theorem b__law_plan {w : World} {K : PySem.W.Frag} {mg : Str → Option Value} (T : Tp w K mg) : Binds K T.d__law_plan ["_law_box_here"] [] := T.F__law_plan.binds fun _ _ _ _ _ _ us hl => match us, hl with | [_], _ => rfl
theorem b__law_parts {w : World} {K : PySem.W.Frag} {mg : Str → Option Value} (T : Tp w K mg) : Binds K T.d__law_parts ["_law_group_here", "_law_around"] [] := T.F__law_parts.binds fun _ _ _ _ _ _ us hl => match us, hl with | [_, _], _ => rfl
theorem b__law_hands {w : World} {K : PySem.W.Frag} {mg : Str → Option Value} (T : Tp w K mg) : Binds K T.d__law_hands ["_law_plan_here"] [] := T.F__law_hands.binds fun _ _ _ _ _ _ us hl => match us, hl with | [_], _ => rfl
theorem b__law_row {w : World} {K : PySem.W.Frag} {mg : Str → Option Value} (T : Tp w K mg) : Binds K T.d__law_row ["_law_box_here", "_law_size"] [] := T.F__law_row.binds fun _ _ _ _ _ _ us hl => match us, hl with | [_, _], _ => rfl
theorem b__law_program {w : World} {K : PySem.W.Frag} {mg : Str → Option Value} (T : Tp w K mg) : Binds K T.d__law_program ["_law_box_here"] [] := T.F__law_program.binds fun _ _ _ _ _ _ us hl => match us, hl with | [_], _ => rfl
theorem b__law_book {w : World} {K : PySem.W.Frag} {mg : Str → Option Value} (T : Tp w K mg) : Binds K T.d__law_book ["_law_box_here", "_law_plan_here"] [] := T.F__law_book.binds fun _ _ _ _ _ _ us hl => match us, hl with | [_, _], _ => rfl
theorem b_law {w : World} {K : PySem.W.Frag} {mg : Str → Option Value} (T : Tp w K mg) : Binds K T.d_law ["_law_script"] [] := T.F_law.binds fun _ _ _ _ _ _ us hl => match us, hl with | [_], _ => rfl
theorem b_House___init__ {w : World} {K : PySem.W.Frag} {mg : Str → Option Value} (T : Tp w K mg) : Binds K T.d_House___init__ ["self", "plan", "book"] [] := T.F_House___init__.binds fun _ _ _ _ _ _ us hl => match us, hl with | [_, _, _], _ => rfl
theorem b_House_hand {w : World} {K : PySem.W.Frag} {mg : Str → Option Value} (T : Tp w K mg) : Binds K T.d_House_hand ["self", "name"] [] := T.F_House_hand.binds fun _ _ _ _ _ _ us hl => match us, hl with | [_, _], _ => rfl
theorem b_House_group {w : World} {K : PySem.W.Frag} {mg : Str → Option Value} (T : Tp w K mg) : Binds K T.d_House_group ["self", "name"] [] := T.F_House_group.binds fun _ _ _ _ _ _ us hl => match us, hl with | [_, _], _ => rfl
theorem b_House_within {w : World} {K : PySem.W.Frag} {mg : Str → Option Value} (T : Tp w K mg) : Binds K T.d_House_within ["self"] [] := T.F_House_within.binds fun _ _ _ _ _ _ us hl => match us, hl with | [_], _ => rfl
theorem b_House___len__ {w : World} {K : PySem.W.Frag} {mg : Str → Option Value} (T : Tp w K mg) : Binds K T.d_House___len__ ["self"] [] := T.F_House___len__.binds fun _ _ _ _ _ _ us hl => match us, hl with | [_], _ => rfl

/-! ### what the program's own defs tell -/
def isWhole : PyData → Bool
  | .int _ => true | _ => false
def wholeFrom (d : PyData) (k : Int) : Bool := match d with
  | .int i => decide (k ≤ i)
  | _ => false
def rowNum (d : PyData) (many : Int) : Bool := match d with
  | .int i => decide (0 ≤ i) && decide (i < many)
  | _ => false
def wordFits (ds : List PyData) : Bool := decide (ds.length = 1)
def takeFits (ds : List PyData) : Bool := match ds with
  | [_, .none] => true
  | [_, d] => wholeFrom d 0
  | _ => false
def sayFits (ds : List PyData) : Bool := match ds with
  | [_, .int i] => decide (0 ≤ i) && decide (i ≤ 99)
  | _ => false
def gotoFits (ds : List PyData) (many : Int) : Bool := match ds with
  | [_, d] => rowNum d many
  | _ => false
def ifFits (ds : List PyData) (many : Int) : Bool := match ds with
  | [_, d, e] => isWhole d && rowNum e many
  | _ => false
def rowFits (d : PyData) (many : Int) : Bool := match d with
  | .tuple (.str z :: ds) => if z = "take" then takeFits (.str z :: ds) else if z = "try" then wordFits (.str z :: ds) else if z = "let" then wordFits (.str z :: ds) else if z = "say" then sayFits (.str z :: ds) else if z = "goto" then gotoFits (.str z :: ds) many else if z = "if" then ifFits (.str z :: ds) many else false
  | _ => false
def progFits : PyData → Bool
  | .tuple ds => ds.all fun d => rowFits d ds.length
  | _ => false

theorem and_of {a b : Bool} (h : b = true → a = true) : (a && b) = b := by
  cases b with
  | false => exact Bool.and_false a
  | true => rw [h rfl] <;> rfl
theorem len_is {n m : Nat} (h : decide (V.int (n : Int) = V.int (m : Int)) = true) : n = m := by
  have e : V.int (n : Int) = V.int (m : Int) := of_decide_eq_true h
  have e2 : (n : Int) = (m : Int) := V.int.inj e
  omega
theorem is_len {n m : Nat} (h : n = m) : decide (V.int (n : Int) = V.int (m : Int)) = true := by
  subst h
  exact decide_eq_true rfl
theorem dxb2 {K : PySem.W.Frag} {H : Hp} {xs : List V} {ds : List PyData} (h : DxAll K H xs ds) (e : xs.length = 2) : ∃ x y d f, xs = [x, y] ∧ ds = [d, f] ∧ Dx K H x d ∧ Dx K H y f := by
  cases h with
  | nil => simp at e
  | cons h1 t =>
    cases t with
    | nil => simp at e
    | cons h2 t =>
      cases t with
      | nil => exact ⟨_, _, _, _, rfl, rfl, h1, h2⟩
      | cons _ _ => simp at e
theorem dxb3 {K : PySem.W.Frag} {H : Hp} {xs : List V} {ds : List PyData} (h : DxAll K H xs ds) (e : xs.length = 3) : ∃ x y z d f g, xs = [x, y, z] ∧ ds = [d, f, g] ∧ Dx K H x d ∧ Dx K H y f ∧ Dx K H z g := by
  cases h with
  | nil => simp at e
  | cons h1 t =>
    obtain ⟨y, z, f, g, rfl, rfl, hy, hz⟩ := dxb2 t (by simpa using e)
    exact ⟨_, _, _, _, _, _, rfl, rfl, h1, hy, hz⟩
theorem takeFits_len {ds : List PyData} (h : takeFits ds = true) : ds.length = 2 := by
  unfold takeFits at h
  split at h
  · rfl
  · rfl
  · cases h
theorem sayFits_len {ds : List PyData} (h : sayFits ds = true) : ds.length = 2 := by
  unfold sayFits at h
  split at h
  · rfl
  · cases h
theorem gotoFits_len {ds : List PyData} {k : Int} (h : gotoFits ds k = true) : ds.length = 2 := by
  unfold gotoFits at h
  split at h
  · rfl
  · cases h
theorem ifFits_len {ds : List PyData} {k : Int} (h : ifFits ds k = true) : ds.length = 3 := by
  unfold ifFits at h
  split at h
  · rfl
  · cases h

/-! ### promises -/
def spWhole (K : PySem.W.Frag) : Sp := fun vs H Q _ => ∃ v d, vs = [v] ∧ Dx K H v d ∧ ∀ H', Ex H H' → Q (.bl (isWhole d)) H'
def spFrom (K : PySem.W.Frag) : Sp := fun vs H Q _ => ∃ v d k, vs = [v, .int k] ∧ Dx K H v d ∧ ∀ H', Ex H H' → Q (.bl (wholeFrom d k)) H'
def spNum (K : PySem.W.Frag) : Sp := fun vs H Q _ => ∃ v d k, vs = [v, .int k] ∧ Dx K H v d ∧ ∀ H', Ex H H' → Q (.bl (rowNum d k)) H'
def spFit (K : PySem.W.Frag) (f : List PyData → Int → Bool) : Sp := fun vs H Q _ => ∃ a xs ds k, vs = [.ref a, .int k] ∧ SqT K H a xs ∧ DxAll K H xs ds ∧ xs.length ≤ 40000 ∧ ∀ H', Ex H H' → Q (.bl (f ds k)) H'
def spRowFits (K : PySem.W.Frag) : Sp := fun vs H Q _ => ∃ v d k, vs = [v, .int k] ∧ Dx K H v d ∧ (∀ ds, d = .tuple ds → ds.length ≤ 40000) ∧ ∀ H', Ex H H' → Q (.bl (rowFits d k)) H'
def rowsSmall : PyData → Prop
  | .tuple ds => ds.length ≤ 40000 ∧ ∀ d ∈ ds, ∀ es, d = .tuple es → es.length ≤ 40000
  | _ => True
def spProg (K : PySem.W.Frag) : Sp := fun vs H Q _ => ∃ v d, vs = [v] ∧ Dx K H v d ∧ rowsSmall d ∧ ∀ H', Ex H H' → Q (.bl (progFits d)) H'

section
variable {P : Program} {w : World} {K : PySem.W.Frag} {mg : Str → Option Value} {base : Heap}
theorem ok_is_whole (T : Tp w K mg) : FnOk P w K mg base CX0 1 T.f_is_whole T.d_is_whole ["thing"] (spWhole K) := by
  refine T.F_is_whole.ok sc_is_whole (fun vs H Q E h => ?_) (fun cdv A outer s H vs Q E hr h => ?_)
  · obtain ⟨v, d, rfl, _⟩ := h
    rfl
  obtain ⟨v, d, rfl, hd, q⟩ := h
  refine ⟨_, (pss_one (ps_ret (pe_and (pe_callB (isiK (K := K) rfl) rfl T.z_isinstance (by decide +kernel) (pa_cons (pv 0) (pa_cons (pe_bltn (v := .ty "int") rfl T.z_int (by decide +kernel) rfl) pa_nil (star1 rfl)) (star1 rfl)) (by decide) (by decide) (star1 rfl) (starAll rfl)) (pe_one (pe_not (pe_callB (isiK (K := K) rfl) rfl T.z_isinstance (by decide +kernel) (pa_cons (pv 0) (pa_cons (pe_bltn (v := .ty "bool") rfl T.z_bool (by decide +kernel) rfl) pa_nil (star1 rfl)) (star1 rfl)) (by decide) (by decide) (star1 rfl) (starAll rfl))))))), ?_⟩
  refine s_ret (ev_is (ev_andV (ev_isX (ev_var rfl) hd (kt_int d)) fun _ => ev_notV (ev_isX (ev_var rfl) hd (kt_bool d))) ?_) q
  cases d <;> rfl
theorem ok_is_whole_from (T : Tp w K mg) : FnOk P w K mg base CX0 2 T.f_is_whole_from T.d_is_whole_from ["thing", "least"] (spFrom K) := by
  refine T.F_is_whole_from.ok sc_is_whole_from (fun vs H Q E h => ?_) (fun cdv A outer s H vs Q E hr h => ?_)
  · obtain ⟨v, d, k, rfl, _⟩ := h
    rfl
  obtain ⟨v, d, k, rfl, hd, q⟩ := h
  refine ⟨_, (pss_one (ps_ret (pe_and (pe_call (ok_is_whole T) (hr.mono (by decide)) rfl T.m_is_whole T.F_is_whole.kp (b_is_whole T) .nil pass0 (pa_cons (pv 0) pa_nil (star1 rfl)) (by decide) (star1 rfl) (starAll rfl)) (pe_one (pe_cmpR op_ge (pv 0) (pv 1) (nomark _)))))), ?_⟩
  refine s_ret (ev_is (ev_andV (b := wholeFrom d k) (ev_call (ea_cons (ev_var rfl) ea_nil) fun H1 e Q' q' E => ⟨v, d, rfl, dx_mono e hd, q'⟩) fun hw => ?_) ?_) q
  · cases hd with
    | int i => exact ev_I0 (ev_var rfl) (ev_var rfl)
    | _ => cases hw
  · cases d <;> rfl
theorem ok_is_row_number (T : Tp w K mg) : FnOk P w K mg base CX0 3 T.f_is_row_number T.d_is_row_number ["thing", "many"] (spNum K) := by
  refine T.F_is_row_number.ok sc_is_row_number (fun vs H Q E h => ?_) (fun cdv A outer s H vs Q E hr h => ?_)
  · obtain ⟨v, d, k, rfl, _⟩ := h
    rfl
  obtain ⟨v, d, k, rfl, hd, q⟩ := h
  refine ⟨_, (pss_one (ps_ret (pe_and (pe_call (ok_is_whole_from T) (hr.mono (by decide)) rfl T.m_is_whole_from T.F_is_whole_from.kp (b_is_whole_from T) .nil pass0 (pa_cons (pv 0) (pa_cons pe_int pa_nil (star1 rfl)) (star1 rfl)) (by decide) (star1 rfl) (starAll rfl)) (pe_one (pe_cmpR op_lt (pv 0) (pv 1) (nomark _)))))), ?_⟩
  refine s_ret (ev_is (ev_andV (a := wholeFrom d 0) (b := rowNum d k) (ev_call (ea_cons (ev_var rfl) (ea_cons ev_c ea_nil)) fun H1 e Q' q' E => ⟨v, d, 0, rfl, dx_mono e hd, q'⟩) fun hw => ?_) ?_) q
  · cases hd with
    | int i =>
      refine ev_is (ev_I0 (ev_var rfl) (ev_var rfl)) ?_
      have h0 : (0 : Int) ≤ i := of_decide_eq_true hw
      show V.bl (decide (i < k)) = V.bl (decide (0 ≤ i) && decide (i < k))
      rw [decide_eq_true h0, Bool.true_and]
    | _ => cases hw
  · cases d <;> simp [wholeFrom, rowNum]
theorem ok_word_fits (T : Tp w K mg) : FnOk P w K mg base CX0 1 T.f_word_fits T.d_word_fits ["row", "many"] (spFit K fun ds _ => wordFits ds) := by
  refine T.F_word_fits.ok sc_word_fits (fun vs H Q E h => ?_) (fun cdv A outer s H vs Q E hr h => ?_)
  · obtain ⟨a, xs, ds, k, rfl, _⟩ := h
    rfl
  obtain ⟨a, xs, ds, k, rfl, hs, hd, hz, q⟩ := h
  refine ⟨_, (pss_one (ps_ret (pe_cmpR op_eq (pe_callB (lenK (K := K) rfl) rfl T.z_len PySem.boot_len (pa_cons (pv 0) pa_nil (star1 rfl)) (by decide) (by decide) (star1 rfl) (starAll rfl)) pe_int (nomark _)))), ?_⟩
  refine s_ret (ev_is (ev_eq (ev_lenT (ev_var rfl) hs) ev_c rfl) ?_) q
  rw [dxa_len hd]
  unfold wordFits
  congr 1
  simp
  omega
theorem ok_take_fits (T : Tp w K mg) : FnOk P w K mg base CX0 3 T.f_take_fits T.d_take_fits ["row", "many"] (spFit K fun ds _ => takeFits ds) := by
  refine T.F_take_fits.ok sc_take_fits (fun vs H Q E h => ?_) (fun cdv A outer s H vs Q E hr h => ?_)
  · obtain ⟨a, xs, ds, k, rfl, _⟩ := h
    rfl
  obtain ⟨a, xs, ds, k, rfl, hs, hd, hz, q⟩ := h
  refine ⟨_, (pss_one (ps_ret (pe_and (pe_cmpR op_eq (pe_callB (lenK (K := K) rfl) rfl T.z_len PySem.boot_len (pa_cons (pv 0) pa_nil (star1 rfl)) (by decide) (by decide) (star1 rfl) (starAll rfl)) pe_int (nomark _)) (pe_one (pe_or (pe_cmp (pc_isN (pe_ix (ixTK (K := K) rfl) (pv 0) pe_int (fun _ _ => rfl)))) (pe_one (pe_call (ok_is_whole_from T) (hr.mono (by decide)) rfl T.m_is_whole_from T.F_is_whole_from.kp (b_is_whole_from T) .nil pass0 (pa_cons (pe_ix (ixTK (K := K) rfl) (pv 0) pe_int (fun _ _ => rfl)) (pa_cons pe_int pa_nil (star1 rfl)) (star1 rfl)) (by decide) (star1 rfl) (starAll rfl)))))))), ?_⟩
  refine s_ret (ev_is (ev_andV (b := takeFits ds) (ev_eq (ev_lenT (ev_var rfl) hs) ev_c rfl) fun hl => ?_) (congrArg V.bl (and_of fun hb => is_len (m := 2) ((dxa_len hd).trans (takeFits_len hb))))) q
  obtain ⟨x, y, d, f, rfl, rfl, hx, hy⟩ := dxb2 hd (len_is (m := 2) hl)
  refine ev_is (ev_orV (ev_isN (ev_ixT (v := y) (ev_var rfl) ev_c hs rfl)) fun _ => ev_call (ea_cons (ev_ixT (v := y) (ev_var rfl) ev_c hs rfl) (ea_cons ev_c ea_nil)) fun H1 e Q' q' E => ⟨y, f, 0, rfl, dx_mono e hy, q'⟩) ?_
  cases hy <;> simp [takeFits]
theorem ok_say_fits (T : Tp w K mg) : FnOk P w K mg base CX0 3 T.f_say_fits T.d_say_fits ["row", "many"] (spFit K fun ds _ => sayFits ds) := by
  refine T.F_say_fits.ok sc_say_fits (fun vs H Q E h => ?_) (fun cdv A outer s H vs Q E hr h => ?_)
  · obtain ⟨a, xs, ds, k, rfl, _⟩ := h
    rfl
  obtain ⟨a, xs, ds, k, rfl, hs, hd, hz, q⟩ := h
  refine ⟨_, (pss_one (ps_ret (pe_and (pe_cmpR op_eq (pe_callB (lenK (K := K) rfl) rfl T.z_len PySem.boot_len (pa_cons (pv 0) pa_nil (star1 rfl)) (by decide) (by decide) (star1 rfl) (starAll rfl)) pe_int (nomark _)) (pe_and (pe_call (ok_is_whole_from T) (hr.mono (by decide)) rfl T.m_is_whole_from T.F_is_whole_from.kp (b_is_whole_from T) .nil pass0 (pa_cons (pe_ix (ixTK (K := K) rfl) (pv 0) pe_int (fun _ _ => rfl)) (pa_cons pe_int pa_nil (star1 rfl)) (star1 rfl)) (by decide) (star1 rfl) (starAll rfl)) (pe_one (pe_cmpR op_le (pe_ix (ixTK (K := K) rfl) (pv 0) pe_int (fun _ _ => rfl)) (pe_glob (v := .int 99) rfl T.c_MOST_SAID ⟨_, rfl⟩) (nomark _))))))), ?_⟩
  refine s_ret (ev_is (ev_andV (b := sayFits ds) (ev_eq (ev_lenT (ev_var rfl) hs) ev_c rfl) fun hl => ?_) (congrArg V.bl (and_of fun hb => is_len (m := 2) ((dxa_len hd).trans (sayFits_len hb))))) q
  obtain ⟨x, y, d, f, rfl, rfl, hx, hy⟩ := dxb2 hd (len_is (m := 2) hl)
  refine ev_is (ev_andV (a := wholeFrom f 0) (b := sayFits [d, f]) (ev_call (ea_cons (ev_ixT (v := y) (ev_var rfl) ev_c hs rfl) (ea_cons ev_c ea_nil)) fun H1 e Q' q' E => ⟨y, f, 0, rfl, dx_mono e hy, q'⟩) fun hw => ?_) ?_
  · cases hy with
    | int i =>
      refine ev_is (ev_I0 (ev_ixT (v := .int i) (ev_var rfl) ev_c hs rfl) ev_c) ?_
      have h0 : (0 : Int) ≤ i := of_decide_eq_true hw
      show V.bl (decide (i ≤ 99)) = V.bl (decide (0 ≤ i) && decide (i ≤ 99))
      rw [decide_eq_true h0, Bool.true_and]
    | _ => cases hw
  · cases f <;> simp [wholeFrom, sayFits]
theorem ok_goto_fits (T : Tp w K mg) : FnOk P w K mg base CX0 4 T.f_goto_fits T.d_goto_fits ["row", "many"] (spFit K fun ds k => gotoFits ds k) := by
  refine T.F_goto_fits.ok sc_goto_fits (fun vs H Q E h => ?_) (fun cdv A outer s H vs Q E hr h => ?_)
  · obtain ⟨a, xs, ds, k, rfl, _⟩ := h
    rfl
  obtain ⟨a, xs, ds, k, rfl, hs, hd, hz, q⟩ := h
  refine ⟨_, (pss_one (ps_ret (pe_and (pe_cmpR op_eq (pe_callB (lenK (K := K) rfl) rfl T.z_len PySem.boot_len (pa_cons (pv 0) pa_nil (star1 rfl)) (by decide) (by decide) (star1 rfl) (starAll rfl)) pe_int (nomark _)) (pe_one (pe_call (ok_is_row_number T) (hr.mono (by decide)) rfl T.m_is_row_number T.F_is_row_number.kp (b_is_row_number T) .nil pass0 (pa_cons (pe_ix (ixTK (K := K) rfl) (pv 0) pe_int (fun _ _ => rfl)) (pa_cons (pv 1) pa_nil (star1 rfl)) (star1 rfl)) (by decide) (star1 rfl) (starAll rfl)))))), ?_⟩
  refine s_ret (ev_is (ev_andV (b := gotoFits ds k) (ev_eq (ev_lenT (ev_var rfl) hs) ev_c rfl) fun hl => ?_) (congrArg V.bl (and_of fun hb => is_len (m := 2) ((dxa_len hd).trans (gotoFits_len hb))))) q
  obtain ⟨x, y, d, f, rfl, rfl, hx, hy⟩ := dxb2 hd (len_is (m := 2) hl)
  exact ev_call (ea_cons (ev_ixT (v := y) (ev_var rfl) ev_c hs rfl) (ea_cons (ev_var rfl) ea_nil)) fun H1 e Q' q' E => ⟨y, f, k, rfl, dx_mono e hy, q'⟩
theorem ok_if_fits (T : Tp w K mg) : FnOk P w K mg base CX0 4 T.f_if_fits T.d_if_fits ["row", "many"] (spFit K fun ds k => ifFits ds k) := by
  refine T.F_if_fits.ok sc_if_fits (fun vs H Q E h => ?_) (fun cdv A outer s H vs Q E hr h => ?_)
  · obtain ⟨a, xs, ds, k, rfl, _⟩ := h
    rfl
  obtain ⟨a, xs, ds, k, rfl, hs, hd, hz, q⟩ := h
  refine ⟨_, (pss_one (ps_ret (pe_and (pe_cmpR op_eq (pe_callB (lenK (K := K) rfl) rfl T.z_len PySem.boot_len (pa_cons (pv 0) pa_nil (star1 rfl)) (by decide) (by decide) (star1 rfl) (starAll rfl)) pe_int (nomark _)) (pe_and (pe_call (ok_is_whole T) (hr.mono (by decide)) rfl T.m_is_whole T.F_is_whole.kp (b_is_whole T) .nil pass0 (pa_cons (pe_ix (ixTK (K := K) rfl) (pv 0) pe_int (fun _ _ => rfl)) pa_nil (star1 rfl)) (by decide) (star1 rfl) (starAll rfl)) (pe_one (pe_call (ok_is_row_number T) (hr.mono (by decide)) rfl T.m_is_row_number T.F_is_row_number.kp (b_is_row_number T) .nil pass0 (pa_cons (pe_ix (ixTK (K := K) rfl) (pv 0) pe_int (fun _ _ => rfl)) (pa_cons (pv 1) pa_nil (star1 rfl)) (star1 rfl)) (by decide) (star1 rfl) (starAll rfl))))))), ?_⟩
  refine s_ret (ev_is (ev_andV (b := ifFits ds k) (ev_eq (ev_lenT (ev_var rfl) hs) ev_c rfl) fun hl => ?_) (congrArg V.bl (and_of fun hb => is_len (m := 3) ((dxa_len hd).trans (ifFits_len hb))))) q
  obtain ⟨x, y, z, d, f, g, rfl, rfl, hx, hy, hz⟩ := dxb3 hd (len_is (m := 3) hl)
  exact ev_andV (a := isWhole f) (b := rowNum g k) (ev_call (ea_cons (ev_ixT (v := y) (ev_var rfl) ev_c hs rfl) ea_nil) fun H1 e Q' q' E => ⟨y, f, rfl, dx_mono e hy, q'⟩)
    fun _ => ev_call (ea_cons (ev_ixT (v := z) (ev_var rfl) ev_c hs rfl) (ea_cons (ev_var rfl) ea_nil)) fun H1 e Q' q' E => ⟨z, g, k, rfl, dx_mono e hz, q'⟩
end

section
variable {P : Program} {w : World} {K : PySem.W.Frag} {mg : Str → Option Value} {base : Heap}
theorem ev_callA {i : Nat} {S : Addr → Option Sp} {t : TA} {σ : L2.St} {H : Hp} {vs : List V} {z : V} {f : Addr} {sp : Sp} (hf : σ[i]? = some (some (.ref f))) (hS : S f = some sp) (h : EvA t σ H vs) (hs : SpV sp vs H z) : Ev (tCallA i S t) σ H z := by
  intro H1 e Q q
  exact ⟨f, sp, hf, hS, h H1 e _ fun H2 e2 => hs H2 (e.trans e2) Q (fun H3 e3 => q H3 (e2.trans e3)) _⟩
/-- which promise goes with which def of the table -/
def fitS (T : Tp w K mg) : Addr → Option Sp := fun f =>
  if f = T.f_take_fits then some (spFit K fun ds _ => takeFits ds) else if f = T.f_word_fits then some (spFit K fun ds _ => wordFits ds) else if f = T.f_say_fits then some (spFit K fun ds _ => sayFits ds) else if f = T.f_goto_fits then some (spFit K fun ds k => gotoFits ds k) else if f = T.f_if_fits then some (spFit K fun ds k => ifFits ds k) else none
theorem fit_take (T : Tp w K mg) : fitS T T.f_take_fits = some (spFit K fun ds _ => takeFits ds) := if_pos rfl
theorem fit_word (T : Tp w K mg) : fitS T T.f_word_fits = some (spFit K fun ds _ => wordFits ds) := by
  have n := T.nd
  simp only [List.nodup_cons, List.mem_cons, List.not_mem_nil, or_false, not_or] at n
  unfold fitS
  rw [if_neg (fun z => n.1.1 z.symm), if_pos rfl]
theorem fit_say (T : Tp w K mg) : fitS T T.f_say_fits = some (spFit K fun ds _ => sayFits ds) := by
  have n := T.nd
  simp only [List.nodup_cons, List.mem_cons, List.not_mem_nil, or_false, not_or] at n
  unfold fitS
  rw [if_neg (fun z => n.1.2.1 z.symm), if_neg (fun z => n.2.1.1 z.symm), if_pos rfl]
theorem fit_goto (T : Tp w K mg) : fitS T T.f_goto_fits = some (spFit K fun ds k => gotoFits ds k) := by
  have n := T.nd
  simp only [List.nodup_cons, List.mem_cons, List.not_mem_nil, or_false, not_or] at n
  unfold fitS
  rw [if_neg (fun z => n.1.2.2.1 z.symm), if_neg (fun z => n.2.1.2.1 z.symm), if_neg (fun z => n.2.2.1.1 z.symm), if_pos rfl]
theorem fit_if (T : Tp w K mg) : fitS T T.f_if_fits = some (spFit K fun ds k => ifFits ds k) := by
  have n := T.nd
  simp only [List.nodup_cons, List.mem_cons, List.not_mem_nil, or_false, not_or] at n
  unfold fitS
  rw [if_neg (fun z => n.1.2.2.2 z.symm), if_neg (fun z => n.2.1.2.2 z.symm), if_neg (fun z => n.2.2.1.2 z.symm), if_neg (fun z => n.2.2.2.1 z.symm), if_pos rfl]
theorem fitHeld (T : Tp w K mg) : ∀ f sp, fitS T f = some sp → Held P w K mg base 4 f sp := by
  intro f sp h
  unfold fitS at h
  split at h
  · rename_i e; subst e; cases h; exact ⟨_, _, (ok_take_fits T).mono (by decide), T.F_take_fits.kp, b_take_fits T⟩
  split at h
  · rename_i e; subst e; cases h; exact ⟨_, _, (ok_word_fits T).mono (by decide), T.F_word_fits.kp, b_word_fits T⟩
  split at h
  · rename_i e; subst e; cases h; exact ⟨_, _, (ok_say_fits T).mono (by decide), T.F_say_fits.kp, b_say_fits T⟩
  split at h
  · rename_i e; subst e; cases h; exact ⟨_, _, (ok_goto_fits T).mono (by decide), T.F_goto_fits.kp, b_goto_fits T⟩
  split at h
  · rename_i e; subst e; cases h; exact ⟨_, _, (ok_if_fits T).mono (by decide), T.F_if_fits.kp, b_if_fits T⟩
  cases h
theorem rowFits_no {d : PyData} {k : Int} (h : ∀ z ds, d ≠ .tuple (.str z :: ds)) : rowFits d k = false := by
  unfold rowFits
  split
  · exact absurd rfl (h _ _)
  · rfl
theorem ok_row_fits (T : Tp w K mg) : FnOk P w K mg base CX0 5 T.f_row_fits T.d_row_fits ["row", "many"] (spRowFits K) := by
  refine T.F_row_fits.ok sc_row_fits (fun vs H Q E h => ?_) (fun cdv A outer s H vs Q E hr h => ?_)
  · obtain ⟨v, d, k, rfl, _⟩ := h
    rfl
  obtain ⟨v, d, k, rfl, hd, hz, q⟩ := h
  refine ⟨_, (pss_cons (ps_if (PW.pt (pw_or (pt_not (pt_val (pe_callB (isiK (K := K) rfl) rfl T.z_isinstance (by decide +kernel) (pa_cons (pv 0) (pa_cons (pe_bltn (v := .ty "tuple") rfl T.z_tuple (by decide +kernel) rfl) pa_nil (star1 rfl)) (star1 rfl)) (by decide) (by decide) (star1 rfl) (starAll rfl)))) (pw_or1 (pt_cmpR op_eq (pe_callB (lenK (K := K) rfl) rfl T.z_len PySem.boot_len (pa_cons (pv 0) pa_nil (star1 rfl)) (by decide) (by decide) (star1 rfl) (starAll rfl)) pe_int (nomark _))))) (pss_one (ps_ret pe_bl)) pss_nil)
  (pss_cons (ps_set (i := 2) sc_row_fits.nd rfl (Or.inl rfl) (pe_ix (ixTK (K := K) rfl) (pv 0) pe_int (fun _ _ => rfl)))
  (pss_cons (ps_if (PW.pt (pw_or (pt_not (pt_val (pe_callB (isiK (K := K) rfl) rfl T.z_isinstance (by decide +kernel) (pa_cons (pv 2) (pa_cons (pe_bltn (v := .ty "str") rfl T.z_str (by decide +kernel) rfl) pa_nil (star1 rfl)) (star1 rfl)) (by decide) (by decide) (star1 rfl) (starAll rfl)))) (pw_or1 (pt_cmpR op_notInK (pv 2) (pe_glob (v := .ref T.a_FORMS) rfl T.c_FORMS rfl) (by with_unfolding_all rfl))))) (pss_one (ps_ret pe_bl)) pss_nil)
  (pss_cons (ps_set (i := 3) sc_row_fits.nd rfl (Or.inl rfl) (pe_ix ix_kdict (pe_glob (v := .ref T.a_FORMS) rfl T.c_FORMS rfl) (pv 2) (fun _ _ => rfl)))
  (pss_one (ps_ret (pe_callA (S := fitS T) (fitHeld T) (hr.mono (by decide)) (i := 3) rfl (Or.inl rfl) (pa_cons (pv 0) (pa_cons (pv 1) pa_nil (star1 rfl)) (star1 rfl)) (by decide) (by decide) (star1 rfl) (starAll rfl)))))))), ?_⟩
  by_cases ht : isTupB d = true
  case neg =>
    have hb : isTupB d = false := by simpa using ht
    refine s_if (b := true) (et_is (et_or (b := false) (et_not (et_B (ev_isX (ev_var rfl) hd (kt_tuple d)))) fun h => ?_) (by rw [hb]; rfl)) (fun _ H1 e1 => ?_) (fun h => by cases h)
    · rw [hb] at h
      cases h
    · refine s_ret ev_c fun H2 e2 => ?_
      have e : rowFits d k = false := rowFits_no fun z ds h => by
        subst h
        cases hb
      have q2 := q H2 (e1.trans e2)
      rw [e] at q2
      exact q2
  cases hd with
  | tup hs ha =>
    rename_i a xs ds
    have hz2 : xs.length ≤ 40000 := by rw [dxa_len ha]; exact hz ds rfl
    have hl : EvT (tOr (tNot (tB (tCB (rIsi K) (tCons (tVar 0) (tCons (tC (.ty "tuple")) tNil))))) (tTest (tOp rEq (tCB (rLenS K) (tCons (tVar 0) tNil)) (tC (.int 0))))) (start N_row_fits [.ref a, .int k]) H (decide (V.int (xs.length : Int) = V.int 0)) :=
      et_is (et_or (et_not (et_B (ev_isX (ev_var rfl) (Dx.tup hs ha) (kt_tuple (.tuple ds))))) fun _ => et_test (ev_eq (ev_lenT (ev_var rfl) hs) ev_c rfl)) rfl
    refine s_if hl (fun h0 H1 e1 => ?_) (fun h0 H1 e1 => ?_)
    · have e0 : xs.length = 0 := len_is (m := 0) h0
      refine s_ret ev_c fun H2 e2 => ?_
      have e : rowFits (.tuple ds) k = false := rowFits_no fun z es h => by
        cases h
        have := dxa_len ha
        rw [e0] at this
        cases this
      have q2 := q H2 (e1.trans e2)
      rw [e] at q2
      exact q2
    · cases ha with
      | nil => exact absurd h0 (by decide)
      | cons hx hr' =>
        rename_i x xs' d ds'
        refine s_asg (v := x) (ev_ixT (v := x) (ev_var rfl) ev_c (ex_t e1 hs) ?_) fun H2 e2 => ?_
        · simp [atI, ixN]
        have hx2 := dx_mono (e1.trans e2) hx
        by_cases hst : isStrB d = true
        case neg =>
          have hb : isStrB d = false := by simpa using hst
          refine s_if (b := true) (et_is (et_or (b := false) (et_not (et_B (ev_isX (ev_var rfl) hx2 (kt_str d)))) fun h => ?_) (by rw [hb]; rfl)) (fun _ H3 e3 => ?_) (fun h => by cases h)
          · rw [hb] at h
            cases h
          · refine s_ret ev_c fun H4 e4 => ?_
            have e : rowFits (.tuple (d :: ds')) k = false := rowFits_no fun z es h => by
              cases h
              cases hb
            have q2 := q H4 (((e1.trans e2).trans e3).trans e4)
            rw [e] at q2
            exact q2
        cases hx with
        | str z =>
          refine s_if (et_is (et_or (et_not (et_B (ev_isX (ev_var rfl) hx2 (kt_str (.str z))))) fun _ => et_test (ev_op (ev_var rfl) ev_c (rv_notInK T.D_FORMS))) (Bool.false_or _)) (fun h1 H3 e3 => ?_) (fun h1 H3 e3 => ?_)
          · refine s_ret ev_c fun H4 e4 => ?_
            have e : rowFits (.tuple (.str z :: ds')) k = false := by
              unfold rowFits
              simp only at h1 ⊢
              split at h1
              · cases h1
              · rename_i n1
                rw [if_neg n1]
                split at h1
                · cases h1
                · rename_i n2
                  rw [if_neg n2]
                  split at h1
                  · cases h1
                  · rename_i n3
                    rw [if_neg n3]
                    split at h1
                    · cases h1
                    · rename_i n4
                      rw [if_neg n4]
                      split at h1
                      · cases h1
                      · rename_i n5
                        rw [if_neg n5]
                        split at h1
                        · cases h1
                        · rename_i n6
                          rw [if_neg n6]
            have q2 := q H4 (((e1.trans e2).trans e3).trans e4)
            rw [e] at q2
            exact q2
          · have hs3 := ex_t ((e1.trans e2).trans e3) hs
            have ha3 : DxAll K H3 (.str z :: xs') (.str z :: ds') := dxa_mono ((e1.trans e2).trans e3) (.cons (.str z) hr')
            have go : ∀ (f : Addr) (g : List PyData → Int → Bool), (if z = "take" then some (Value.ref T.f_take_fits) else if z = "try" then some (.ref T.f_word_fits) else if z = "let" then some (.ref T.f_word_fits) else if z = "say" then some (.ref T.f_say_fits) else if z = "goto" then some (.ref T.f_goto_fits) else if z = "if" then some (.ref T.f_if_fits) else none) = some (.ref f) →
                fitS T f = some (spFit K g) → g (.str z :: ds') k = rowFits (.tuple (.str z :: ds')) k →
                tSeq (tAsg (tOp (rIxD K w) (tC (.ref T.a_FORMS)) (tVar 2)) (gName 3)) (tRet (tCallA 3 (fitS T) (tCons (tVar 0) (tCons (tVar 1) tNil)))) { nx := fun _ H' => Q .non H', rt := Q } ((start N_row_fits [.ref a, .int k]).set 2 (some (.str z))) H3 := by
              intro f g hf hh hg
              refine s_asg (v := .ref f) (ev_op ev_c (ev_var rfl) (rv_ixD T.D_FORMS hf)) fun H4 e4 => ?_
              refine s_ret (ev_callA (f := f) (sp := spFit K g) (z := .bl (rowFits (.tuple (.str z :: ds')) k)) rfl hh (ea_cons (ev_var rfl) (ea_cons (ev_var rfl) ea_nil)) ?_) fun H5 e5 => q H5 ((((e1.trans e2).trans e3).trans e4).trans e5)
              intro H6 e6 Q' q' E'
              rw [← hg] at q'
              exact ⟨a, _, _, k, rfl, ex_t (e4.trans e6) hs3, dxa_mono (e4.trans e6) ha3, hz2, q'⟩
            by_cases n1 : z = "take"
            · exact go _ _ (by rw [if_pos n1]) (fit_take T) (by unfold rowFits; simp only [if_pos n1])
            by_cases n2 : z = "try"
            · exact go _ _ (by rw [if_neg n1, if_pos n2]) (fit_word T) (by unfold rowFits; simp only [if_neg n1, if_pos n2])
            by_cases n3 : z = "let"
            · exact go _ _ (by rw [if_neg n1, if_neg n2, if_pos n3]) (fit_word T) (by unfold rowFits; simp only [if_neg n1, if_neg n2, if_pos n3])
            by_cases n4 : z = "say"
            · exact go _ _ (by rw [if_neg n1, if_neg n2, if_neg n3, if_pos n4]) (fit_say T) (by unfold rowFits; simp only [if_neg n1, if_neg n2, if_neg n3, if_pos n4])
            by_cases n5 : z = "goto"
            · exact go _ _ (by rw [if_neg n1, if_neg n2, if_neg n3, if_neg n4, if_pos n5]) (fit_goto T) (by unfold rowFits; simp only [if_neg n1, if_neg n2, if_neg n3, if_neg n4, if_pos n5])
            by_cases n6 : z = "if"
            · exact go _ _ (by rw [if_neg n1, if_neg n2, if_neg n3, if_neg n4, if_neg n5, if_pos n6]) (fit_if T) (by unfold rowFits; simp only [if_neg n1, if_neg n2, if_neg n3, if_neg n4, if_neg n5, if_pos n6])
            · simp only [if_neg n1, if_neg n2, if_neg n3, if_neg n4, if_neg n5, if_neg n6] at h1
              cases h1
        | _ => cases hst
  | _ => cases ht
theorem all_range {n : Nat} {ds : List PyData} (hl : n = ds.length) : ((List.range n).map fun i => rowFits (ds.getD i .none) ds.length).all id = progFits (.tuple ds) := by
  unfold progFits
  rw [hl, List.all_map]
  rw [Bool.eq_iff_iff, List.all_eq_true, List.all_eq_true]
  constructor
  · intro h d hd
    obtain ⟨i, hi, e⟩ := List.getElem_of_mem hd
    have := h i (List.mem_range.mpr hi)
    simp only [Function.comp, id] at this
    rw [List.getD_eq_getElem?_getD, List.getElem?_eq_getElem hi] at this
    simpa [e] using this
  · intro h i hi
    have hi := List.mem_range.mp hi
    simp only [Function.comp, id]
    rw [List.getD_eq_getElem?_getD, List.getElem?_eq_getElem hi]
    exact h _ (List.getElem_mem hi)
theorem ok_is_program (T : Tp w K mg) : FnOk P w K mg base CX0 6 T.f_is_program T.d_is_program ["thing"] (spProg K) := by
  refine T.F_is_program.ok sc_is_program (fun vs H Q E h => ?_) (fun cdv A outer s H vs Q E hr h => ?_)
  · obtain ⟨v, d, rfl, _⟩ := h
    rfl
  obtain ⟨v, d, rfl, hd, hz, q⟩ := h
  refine ⟨_, (pss_cons (ps_if (pt_not (pt_val (pe_callB (isiK (K := K) rfl) rfl T.z_isinstance (by decide +kernel) (pa_cons (pv 0) (pa_cons (pe_bltn (v := .ty "tuple") rfl T.z_tuple (by decide +kernel) rfl) pa_nil (star1 rfl)) (star1 rfl)) (by decide) (by decide) (star1 rfl) (starAll rfl)))) (pss_one (ps_ret pe_bl)) pss_nil)
  (pss_one (ps_ret (pe_callB (allK (K := K) rfl rfl) rfl T.z_all (by decide +kernel) (pa_cons (pe_lc (own := [("row", 1)]) (g := gName 1) (tt := tYes) rfl sc_is_program.nd (pi_tup (pv 0)) (blkOk_by (N := N_is_program) (sc := defScope s_is_program) (by decide +kernel)) (fun _ _ _ _ _ => (pg_name (i := 1) sc_is_program.nd rfl (Or.inl rfl))) (fun _ _ _ _ _ => pts_nil) (fun _ _ _ _ _ => (pe_call (ok_row_fits T) (hr.mono (by decide)) rfl T.m_row_fits T.F_row_fits.kp (b_row_fits T) .nil pass0 (pa_cons (pv 1) (pa_cons (pe_callB (lenK (K := K) rfl) rfl T.z_len PySem.boot_len (pa_cons (pv 0) pa_nil (star1 rfl)) (by decide) (by decide) (star1 rfl) (starAll rfl)) pa_nil (star1 rfl)) (star1 rfl)) (by decide) (star1 rfl) (starAll rfl)))) pa_nil (star1 rfl)) (by decide) (by decide) (star1 rfl) (starAll rfl))))), ?_⟩
  refine s_if (et_not (et_B (ev_isX (ev_var rfl) hd (kt_tuple d)))) (fun hb H1 e1 => ?_) (fun hb H1 e1 => ?_)
  · refine s_ret ev_c fun H2 e2 => ?_
    have e : progFits d = false := by
      cases d <;> first | rfl | cases hb
    have q2 := q H2 (e1.trans e2)
    rw [e] at q2
    exact q2
  · cases hd with
    | tup hs ha =>
      rename_i a xs ds
      have hl := dxa_len ha
      have hz1 : ds.length ≤ 40000 := hz.1
      refine s_next ?_
      dsimp only
      refine s_ret (ev_is (ev_allN (bs := (List.range xs.length).map fun i => rowFits (ds.getD i .none) ds.length) ?_) (w := .bl (progFits (.tuple ds))) ?_) ?_
      rotate_left 2
      · exact fun H2 e2 => q H2 (e1.trans e2)
      · have c := el_lcT (K := K) (σ := start N_is_program [.ref a]) (H := H1) (tl := tVar 0) (tt := tYes) (te := tCall (spRowFits K) [] E0 (tCons (tVar 1) (tCons (tCB (rLenS K) (tCons (tVar 0) tNil)) tNil))) (j := 1) (vs := [1]) (fun _ => true) (fun i => .bl (rowFits (ds.getD i .none) ds.length))
          (ev_var rfl) (ex_t e1 hs) (by omega) (fun x => rfl) (fun i x H2 e2 hi => et_yes) (fun i x H2 e2 hi _ => ?_)
        · rw [given_all] at c
          rw [List.map_map]
          exact c
        · obtain ⟨d, h1, h2⟩ := dxa_get ha hi
          have e : ds.getD i .none = d := by rw [List.getD_eq_getElem?_getD, h1]; rfl
          rw [e]
          refine ev_call (vs := [x, .int xs.length]) (ea_cons (ev_var rfl) (ea_cons (ev_lenT (ev_var rfl) (ex_t (e1.trans e2) hs)) ea_nil)) fun H3 e3 Q' q' E' => ⟨x, d, (xs.length : Int), rfl, dx_mono ((e1.trans e2).trans e3) h2, ?_, ?_⟩
          · intro es hes
            exact hz.2 d (List.mem_of_getElem? h1) es hes
          · rw [hl]
            exact q'
      · exact congrArg V.bl (all_range hl)
    | _ => cases hb
end

/-! ### tuples, names -/
def tupOf (d : PyData) (k : Int) : Bool := match d with
  | .tuple ds => decide ((ds.length : Int) = k)
  | _ => false
def spTupOf (K : PySem.W.Frag) : Sp := fun vs H Q _ => ∃ v d k, vs = [v, .int k] ∧ Dx K H v d ∧ ∀ H', Ex H H' → Q (.bl (tupOf d k)) H'
def shortStr : PyData → Prop
  | .str s => s.length ≤ 1000000
  | _ => True
def lettersB (z : Str) : Bool := z.cps.toList.all fun c => decide (c ∈ ("abcdefghijklmnopqrstuvwxyz" : Str).cps.toList)
def spLetters (K : PySem.W.Frag) : Sp := fun vs H Q _ => ∃ z : Str, vs = [.str z] ∧ z.cps.size ≤ 40000 ∧ ∀ H', Ex H H' → Q (.bl (decide (1 ≤ z.length) && lettersB z)) H'
def spIsName (K : PySem.W.Frag) : Sp := fun vs H Q _ => ∃ v d, vs = [v] ∧ Dx K H v d ∧ shortStr d ∧ ∀ H', Ex H H' → Q (.bl (isNm d)) H'
section
variable {P : Program} {w : World} {K : PySem.W.Frag} {mg : Str → Option Value} {base : Heap}
theorem ok_is_tuple_of (T : Tp w K mg) : FnOk P w K mg base CX0 1 T.f_is_tuple_of T.d_is_tuple_of ["thing", "many"] (spTupOf K) := by
  refine T.F_is_tuple_of.ok sc_is_tuple_of (fun vs H Q E h => ?_) (fun cdv A outer s H vs Q E hr h => ?_)
  · obtain ⟨v, d, k, rfl, _⟩ := h
    rfl
  obtain ⟨v, d, k, rfl, hd, q⟩ := h
  refine ⟨_, (pss_one (ps_ret (pe_and (pe_callB (isiK (K := K) rfl) rfl T.z_isinstance (by decide +kernel) (pa_cons (pv 0) (pa_cons (pe_bltn (v := .ty "tuple") rfl T.z_tuple (by decide +kernel) rfl) pa_nil (star1 rfl)) (star1 rfl)) (by decide) (by decide) (star1 rfl) (starAll rfl)) (pe_one (pe_cmpR op_eq (pe_callB (lenK (K := K) rfl) rfl T.z_len PySem.boot_len (pa_cons (pv 0) pa_nil (star1 rfl)) (by decide) (by decide) (star1 rfl) (starAll rfl)) (pv 1) (nomark _)))))), ?_⟩
  refine s_ret (ev_is (ev_andV (b := tupOf d k) (ev_isX (ev_var rfl) hd (kt_tuple d)) fun ht => ?_) ?_) q
  · cases hd with
    | tup hs ha =>
      refine ev_is (ev_eq (ev_lenT (ev_var rfl) hs) (ev_var rfl) rfl) ?_
      rw [dxa_len ha]
      simp [tupOf]
    | _ => cases ht
  · cases d <;> simp [tupOf, isTupB]
theorem letters_all {z : Str} : ((List.range z.cps.size).map fun i => decide (z.cps.getD i 0 ∈ ("abcdefghijklmnopqrstuvwxyz" : Str).cps.toList)).all id = lettersB z := by
  unfold lettersB
  rw [List.all_map, Bool.eq_iff_iff, List.all_eq_true, List.all_eq_true]
  constructor
  · intro h c hc
    obtain ⟨i, hi, e⟩ := List.getElem_of_mem hc
    have hi2 : i < z.cps.size := by simpa using hi
    have := h i (List.mem_range.mpr hi2)
    simp only [Function.comp, id] at this
    have e2 : z.cps.getD i 0 = c := by
      rw [← e]
      simp [Array.getD_eq_getD_getElem?, hi2]
    rw [e2] at this
    exact this
  · intro h i hi
    have hi2 := List.mem_range.mp hi
    simp only [Function.comp, id]
    refine h _ ?_
    have e2 : z.cps.getD i 0 = z.cps[i] := by simp [Array.getD_eq_getD_getElem?, hi2]
    rw [e2]
    simp
theorem ev_lenS {z : Str} {i : Nat} {H2 : Hp} {σ' : L2.St} (hz : z.length ≤ 1000000) (hσ : σ'[i]? = some (some (.str z))) : Ev (tCB (fun xs H Q => ∃ x n, xs = [x] ∧ LenV K x H n ∧ Q (.int n) H) (tCons (tVar i) tNil)) σ' H2 (.int (z.length : Int)) := fun H3 e3 Q' q' => ⟨_, hσ, .str z, z.length, rfl, ⟨Nat.le_trans hz (by decide), rfl⟩, q' H3 (Ex.refl H3)⟩
theorem ok_is_letters (T : Tp w K mg) : FnOk P w K mg base CX0 1 T.f_is_letters T.d_is_letters ["word"] (spLetters K) := by
  refine T.F_is_letters.ok sc_is_letters (fun vs H Q E h => ?_) (fun cdv A outer s H vs Q E hr h => ?_)
  · obtain ⟨z, rfl, _⟩ := h
    rfl
  obtain ⟨z, rfl, hz, q⟩ := h
  refine ⟨_, (pss_one (ps_ret (pe_and (pe_cmpR op_gt (pe_callB call_len rfl T.z_len PySem.boot_len (pa_cons (pv 0) pa_nil (star1 rfl)) (by decide) (by decide) (star1 rfl) (starAll rfl)) pe_int (nomark _)) (pe_one (pe_callB (allK (K := K) rfl rfl) rfl T.z_all (by decide +kernel) (pa_cons (pe_lc (own := [("sign", 1)]) (g := gName 1) (tt := tYes) rfl sc_is_letters.nd (pi_str (pv 0)) (blkOk_by (N := N_is_letters) (sc := defScope s_is_letters) (by decide +kernel)) (fun _ _ _ _ _ => (pg_name (i := 1) sc_is_letters.nd rfl (Or.inl rfl))) (fun _ _ _ _ _ => pts_nil) (fun _ _ _ _ _ => (pe_cmpR op_in_sign (pv 1) (pe_glob (v := .str "abcdefghijklmnopqrstuvwxyz") rfl T.c_LETTERS ⟨_, rfl⟩) (by with_unfolding_all rfl)))) pa_nil (star1 rfl)) (by decide) (by decide) (star1 rfl) (starAll rfl)))))), ?_⟩
  have hz2 : z.length ≤ 1000000 := Nat.le_trans (show z.cps.size ≤ 40000 from hz) (by decide)
  refine s_ret (ev_andV (ev_is (ev_I0 (ev_lenS hz2 rfl) ev_c) (w := .bl (decide (1 ≤ z.length))) ?_) fun _ => ev_is (ev_allN (bs := (List.range z.cps.size).map fun i => decide (z.cps.getD i 0 ∈ ("abcdefghijklmnopqrstuvwxyz" : Str).cps.toList)) ?_) (w := .bl (lettersB z)) ?_) q
  · congr 1
    exact decide_eq_decide.mpr (by omega)
  · have c := el_lcS (σ := start N_is_letters [.str z]) (H := H) (z := z) (tl := tVar 0) (te := tOp (fun x y H Q => ∃ (c : Nat) (z : Str), x = .str ⟨#[c]⟩ ∧ y = .str z ∧ Q (.bl (decide (c ∈ z.cps.toList))) H) (tVar 1) (tC (.str "abcdefghijklmnopqrstuvwxyz"))) (j := 1) (vs := [1]) (fun i => .bl (decide (z.cps.getD i 0 ∈ ("abcdefghijklmnopqrstuvwxyz" : Str).cps.toList))) (ev_var rfl) hz (fun x => rfl) (fun i c H3 e3 hi => ?_)
    · rw [List.map_map]
      exact c
    · have e : z.cps.getD i 0 = c := by simp [Array.getD_eq_getD_getElem?, hi]
      rw [e]
      exact ev_op (ev_var rfl) ev_c fun H4 _ Q' q' => ⟨c, _, rfl, rfl, q' H4 (Ex.refl H4)⟩
  · rw [letters_all]
theorem ok_is_name (T : Tp w K mg) : FnOk P w K mg base CX0 2 T.f_is_name T.d_is_name ["thing"] (spIsName K) := by
  refine T.F_is_name.ok sc_is_name (fun vs H Q E h => ?_) (fun cdv A outer s H vs Q E hr h => ?_)
  · obtain ⟨v, d, rfl, _⟩ := h
    rfl
  obtain ⟨v, d, rfl, hd, hsh, q⟩ := h
  refine ⟨_, (pss_one (ps_ret (pe_and (pe_callB (isiK (K := K) rfl) rfl T.z_isinstance (by decide +kernel) (pa_cons (pv 0) (pa_cons (pe_bltn (v := .ty "str") rfl T.z_str (by decide +kernel) rfl) pa_nil (star1 rfl)) (star1 rfl)) (by decide) (by decide) (star1 rfl) (starAll rfl)) (pe_and (pe_cmpR op_le (pe_callB call_len rfl T.z_len PySem.boot_len (pa_cons (pv 0) pa_nil (star1 rfl)) (by decide) (by decide) (star1 rfl) (starAll rfl)) (pe_glob (v := .int 8) rfl T.c_LONGEST ⟨_, rfl⟩) (nomark _)) (pe_one (pe_call (ok_is_letters T) (hr.mono (by decide)) rfl T.m_is_letters T.F_is_letters.kp (b_is_letters T) .nil pass0 (pa_cons (pv 0) pa_nil (star1 rfl)) (by decide) (star1 rfl) (starAll rfl))))))), ?_⟩
  refine s_ret (ev_is (ev_andV (b := isNm d) (ev_isX (ev_var rfl) hd (kt_str d)) fun hb => ?_) ?_) q
  · cases hd with
    | str z =>
      have hz : z.length ≤ 1000000 := hsh
      refine ev_is (ev_andV (a := decide ((z.length : Int) ≤ 8)) (b := decide (1 ≤ z.length) && lettersB z) (ev_is (ev_I0 (ev_lenS hz rfl) ev_c) rfl) fun h8 => ev_call (ea_cons (ev_var rfl) ea_nil) fun H1 e Q' q' E => ⟨z, rfl, ?_, q'⟩) ?_
      · have := of_decide_eq_true h8
        have : z.length ≤ 8 := by omega
        exact Nat.le_trans this (by decide)
      · congr 1
        show _ = nameB z
        unfold nameB lettersB
        rw [← Bool.and_assoc, Bool.and_comm (decide ((z.length : Int) ≤ 8))]
        congr 2
        exact decide_eq_decide.mpr (by omega)
    | _ => cases hb
  · cases d <;> first | rfl | simp [isStrB, isNm]
end

theorem q_dputP {td ty tv : TE} {tz : TS} {D : Ends} {σ : L2.St} {H : Hp} (h : tv σ H fun v H1 => td σ H1 fun x H2 => ty σ H2 fun y H3 => ∃ a H4, x = .ref a ∧ DPut H3 a y v H4 ∧ tz D σ H4) : tSeq (sDPut td ty tv) tz D σ H := h
def spForm (K : PySem.W.Frag) : Sp := fun vs H Q _ => ∃ v d, vs = [v] ∧ Dx K H v d ∧ ∀ H', Ex H H' → Q (.bl (formB d)) H'
def PostM (sd : Addr) (ns : List Str) (d : PyData) (H : Hp) (Q : VK) : Prop := ∀ (b : Bool) (ms : List Str) (H' : Hp), KD sd H H' → H' sd = some (.dK (ms.map ky)) → (b = true → ∃ n is, hdM d = some (n, is) ∧ nameB n = true ∧ n ∉ ns ∧ ms = ns ++ [n]) → (b = false → goesB d ns = false) → Q (.bl b) H'
def spMF (K : PySem.W.Frag) : Sp := fun vs H Q _ => ∃ v d sd ns, vs = [v, .ref sd] ∧ Dx K H v d ∧ shorts d ∧ H sd = some (.dK (ns.map ky)) ∧ ns.length ≤ 60000 ∧ PostM sd ns d H Q
def spIsPlan (K : PySem.W.Frag) : Sp := fun vs H Q _ => ∃ v d, vs = [v] ∧ Dx K H v d ∧ shorts d ∧ d.depth ≤ 30 ∧ nodes d ≤ 50000 ∧ ∀ H', Ex H H' → Q (.bl (planB d)) H'
/-- the name that a member tells -/
def tells (d dn : PyData) : Prop := (∀ n, dn = .str n → ∃ is, hdM d = some (n, is)) ∧ ((∀ n, dn ≠ .str n) → hdM d = none)
section
variable {P : Program} {w : World} {K : PySem.W.Frag} {mg : Str → Option Value} {base : Heap}
theorem ok_has_group_form (T : Tp w K mg) : FnOk P w K mg base CX0 3 T.f_has_group_form T.d_has_group_form ["thing"] (spForm K) := by
  refine T.F_has_group_form.ok sc_has_group_form (fun vs H Q E h => ?_) (fun cdv A outer s H vs Q E hr h => ?_)
  · obtain ⟨v, d, rfl, _⟩ := h
    rfl
  obtain ⟨v, d, rfl, hd, q⟩ := h
  refine ⟨_, (pss_cons (ps_if (pt_not (pt_val (pe_call (ok_is_tuple_of T) (hr.mono (by decide)) rfl T.m_is_tuple_of T.F_is_tuple_of.kp (b_is_tuple_of T) .nil pass0 (pa_cons (pv 0) (pa_cons pe_int pa_nil (star1 rfl)) (star1 rfl)) (by decide) (star1 rfl) (starAll rfl)))) (pss_one (ps_ret pe_bl)) pss_nil)
  (pss_cons (ps_asg (pv 0) (pg_tup rfl (pgs_cons (pg_name (i := 1) sc_has_group_form.nd rfl (Or.inl rfl)) (pgs_cons (pg_name (i := 2) sc_has_group_form.nd rfl (Or.inl rfl)) (pgs_cons (pg_name (i := 3) sc_has_group_form.nd rfl (Or.inl rfl)) pgs_nil)))))
  (pss_cons (ps_if (pt_not (pt_val (pe_call (ok_is_whole_from T) (hr.mono (by decide)) rfl T.m_is_whole_from T.F_is_whole_from.kp (b_is_whole_from T) .nil pass0 (pa_cons (pv 2) (pa_cons (pe_glob (v := .int 1) rfl T.c_LEAST ⟨_, rfl⟩) pa_nil (star1 rfl)) (star1 rfl)) (by decide) (star1 rfl) (starAll rfl)))) (pss_one (ps_ret pe_bl)) pss_nil)
  (pss_one (ps_ret (pe_and (pe_callB (isiK (K := K) rfl) rfl T.z_isinstance (by decide +kernel) (pa_cons (pv 3) (pa_cons (pe_bltn (v := .ty "tuple") rfl T.z_tuple (by decide +kernel) rfl) pa_nil (star1 rfl)) (star1 rfl)) (by decide) (by decide) (star1 rfl) (starAll rfl)) (pe_one (pe_cmpR op_gt (pe_callB (lenK (K := K) rfl) rfl T.z_len PySem.boot_len (pa_cons (pv 3) pa_nil (star1 rfl)) (by decide) (by decide) (star1 rfl) (starAll rfl)) pe_int (nomark _))))))))), ?_⟩
  refine q_when (et_not (et_B (ev_call (ea_cons (ev_var rfl) (ea_cons ev_c ea_nil)) fun H1 e Q' q' E => ⟨v, d, 3, rfl, dx_mono e hd, q'⟩))) (fun hb H1 e1 => ?_) (fun hb H1 e1 => ?_)
  · refine s_ret ev_c fun H2 e2 => ?_
    have e : formB d = false := by
      unfold formB
      split
      · simp [tupOf] at hb
      · rfl
    have q2 := q H2 (e1.trans e2)
    rw [e] at q2
    exact q2
  cases hd with
  | tup hs ha =>
    rename_i a xs ds
    have hl : ds.length = 3 := by simp [tupOf] at hb; omega
    obtain ⟨d1, d2, d3, rfl⟩ : ∃ d1 d2 d3, ds = [d1, d2, d3] := by
      match ds, hl with
      | [a, b, c], _ => exact ⟨a, b, c, rfl⟩
    obtain ⟨x, y, z, rfl, h1, h2, h3⟩ := dxa3 ha
    refine q_asgG ?_
    refine ⟨_, rfl, a, _, rfl, ex_t e1 hs, rfl, _, _, rfl, _, _, rfl, _, _, rfl, rfl, ?_⟩
    refine q_when (et_not (et_B (ev_call (ea_cons (ev_var rfl) (ea_cons ev_c ea_nil)) fun H2 e Q' q' E => ⟨y, d2, 1, rfl, dx_mono (e1.trans e) h2, q'⟩))) (fun hb2 H2 e2 => ?_) (fun hb2 H2 e2 => ?_)
    · refine s_ret ev_c fun H3 e3 => ?_
      have e : formB (.tuple [d1, d2, d3]) = false := by
        unfold formB
        split
        · rename_i he
          cases he
          simp only [wholeFrom, Bool.not_eq_true'] at hb2
          rw [hb2, Bool.false_and]
        · rfl
      have q2 := q H3 ((e1.trans e2).trans e3)
      rw [e] at q2
      exact q2
    · refine s_ret (ev_is (ev_andV (b := formB (.tuple [d1, d2, d3])) (ev_isX (ev_var rfl) (dx_mono (e1.trans e2) h3) (kt_tuple d3)) fun ht => ?_) ?_) fun H3 e3 => q H3 ((e1.trans e2).trans e3)
      · cases h3 with
        | tup hs3 ha3 =>
          rename_i a3 xs3 ds3
          refine ev_is (ev_I0 (ev_lenT (ev_var rfl) (ex_t (e1.trans e2) hs3)) ev_c) ?_
          rw [dxa_len ha3]
          cases h2 with
          | int i =>
            simp only [wholeFrom, Bool.not_eq_false'] at hb2
            simp only [formB]
            rw [hb2, Bool.true_and]
            cases ds3 with
            | nil => rfl
            | cons _ _ =>
              congr 1
              simp
          | _ => cases hb2
        | _ => cases ht
      · cases d3 <;> first | rfl | (cases d2 <;> simp [formB, isTupB])
  | _ => cases hb
theorem ok_member_fits (T : Tp w K mg) : FnOk P w K mg base CX0 4 T.f_member_fits T.d_member_fits ["thing", "seen"] (spMF K) := by
  refine T.F_member_fits.ok sc_member_fits (fun vs H Q E h => ?_) (fun cdv A outer s H vs Q E hr h => ?_)
  · obtain ⟨v, d, sd, ns, rfl, _⟩ := h
    rfl
  obtain ⟨v, d, sd, ns, rfl, hd, hsh, hsd, hnl, q⟩ := h
  refine ⟨_, (pss_cons (ps_set (i := 2) sc_member_fits.nd rfl (Or.inl rfl) (pv 0))
  (pss_cons (ps_if (pt_not (pt_val (pe_callB (isiK (K := K) rfl) rfl T.z_isinstance (by decide +kernel) (pa_cons (pv 0) (pa_cons (pe_bltn (v := .ty "str") rfl T.z_str (by decide +kernel) rfl) pa_nil (star1 rfl)) (star1 rfl)) (by decide) (by decide) (star1 rfl) (starAll rfl)))) (pss_cons (ps_if (pt_not (pt_val (pe_call (ok_has_group_form T) (hr.mono (by decide)) rfl T.m_has_group_form T.F_has_group_form.kp (b_has_group_form T) .nil pass0 (pa_cons (pv 0) pa_nil (star1 rfl)) (by decide) (star1 rfl) (starAll rfl)))) (pss_one (ps_ret pe_bl)) pss_nil)
  (pss_one (ps_set (i := 2) sc_member_fits.nd rfl (Or.inl rfl) (pe_ix (ixTK (K := K) rfl) (pv 0) pe_int (fun _ _ => rfl))))) pss_nil)
  (pss_cons (ps_if (PW.pt (pw_or (pt_not (pt_val (pe_call (ok_is_name T) (hr.mono (by decide)) rfl T.m_is_name T.F_is_name.kp (b_is_name T) .nil pass0 (pa_cons (pv 2) pa_nil (star1 rfl)) (by decide) (star1 rfl) (starAll rfl)))) (pw_or1 (pt_cmp (pc_din (hu_of hr) (pv 2) (pv 1)))))) (pss_one (ps_ret pe_bl)) pss_nil)
  (pss_cons (ps_dput (hu_of hr) (pv 1) (pv 2) pe_bl rfl)
  (pss_one (ps_ret pe_bl)))))), ?_⟩
  refine q_asg (v := v) (ev_var rfl) fun H0 e0 => ?_
  refine q_whenM (fun σ' H' => Ex H H' ∧ ∃ x dn, σ' = [some v, some (.ref sd), some x] ∧ Dx K H' x dn ∧ shorts dn ∧ tells d dn) (et_not (et_B (ev_isX (ev_var rfl) (dx_mono e0 hd) (kt_str d)))) ?_ ?_ ?_
  · intro σ' H1 hM
    obtain ⟨e1, x, dn, rfl, hx, hsx, ht⟩ := hM
    have t1 : EvT (tNot (tB (tCall (spIsName K) [] E0 (tCons (tVar 2) tNil)))) [some v, some (.ref sd), some x] H1 (!isNm dn) := et_not (et_B (ev_call (ea_cons (ev_var rfl) ea_nil) fun H2 e Q' q' E => ⟨x, dn, rfl, dx_mono e hx, by cases dn <;> first | trivial | exact hsx, q'⟩))
    cases hn : isNm dn with
    | false =>
      rw [hn] at t1
      refine q_when (b := true) (et_is (et_or (b := false) t1 fun h => by cases h) rfl) (fun _ H2 e2 => ?_) (fun h => by cases h)
      refine s_ret ev_c fun H3 e3 => q false ns H3 (KD.ex ((e1.trans e2).trans e3)) (((e1.trans e2).trans e3) _ _ hsd) (fun h => by cases h) fun _ => ?_
      unfold goesB
      cases dn with
      | str n =>
        obtain ⟨is, hh⟩ := ht.1 n rfl
        rw [hh]
        simp only [isNm] at hn
        simp only [hn, Bool.false_and]
      | _ => rw [ht.2 (fun n z => by cases z)]
    | true =>
      rw [hn] at t1
      cases hx with
      | str n =>
        have hnb : nameB n = true := hn
        obtain ⟨is, hh⟩ := ht.1 n rfl
        refine q_when (et_is (et_or t1 fun _ => et_B (b := decide (n ∈ ns)) ?_) (Bool.false_or _)) (fun hb H2 e2 => ?_) (fun hb H2 e2 => ?_)
        · intro H2 e Q' q'
          refine ⟨_, rfl, _, rfl, sd, _, rfl, DGet.k (k := Sum.inr n) ((e1.trans e) _ _ hsd), ?_⟩
          rw [val_ky]
          exact q' H2 (Ex.refl H2)
        · refine s_ret ev_c fun H3 e3 => q false ns H3 (KD.ex ((e1.trans e2).trans e3)) (((e1.trans e2).trans e3) _ _ hsd) (fun h => by cases h) fun _ => ?_
          unfold goesB
          rw [hh]
          have := of_decide_eq_true hb
          simp [this]
        · have hni : n ∉ ns := of_decide_eq_false hb
          refine q_dputP ?_
          refine ⟨_, rfl, _, rfl, sd, _, rfl, DPut.k (k := Sum.inr n) ((e1.trans e2) _ _ hsd) (sz_lt (by rw [List.length_map]; omega)), ?_⟩
          rw [put_ky hni]
          refine s_ret ev_c fun H3 e3 => q true (ns ++ [n]) H3 ?_ (e3 _ _ upd_same) (fun _ => ⟨n, is, hh, hnb, hni, rfl⟩) (fun h => by cases h)
          intro a o hne ha
          exact e3 _ _ (by rw [upd_ne hne]; exact (e1.trans e2) _ _ ha)
      | _ => cases hn
  · intro R hR hb H1 e1
    have e01 := e0.trans e1
    refine q_when (et_not (et_B (ev_call (ea_cons (ev_var rfl) ea_nil) fun H2 e Q' q' E => ⟨v, d, rfl, dx_mono (e01.trans e) hd, q'⟩))) (fun hf H2 e2 => ?_) (fun hf H2 e2 => ?_)
    · have hfb : formB d = false := by simpa using hf
      refine s_ret ev_c fun H3 e3 => q false ns H3 (KD.ex ((e01.trans e2).trans e3)) (((e01.trans e2).trans e3) _ _ hsd) (fun h => by cases h) fun _ => ?_
      unfold goesB
      have hh : hdM d = none := by
        unfold hdM
        split
        · cases hb
        · rename_i n b ms
          rw [if_neg]
          intro z
          simp only [formB, Bool.and_eq_false_iff, decide_eq_false_iff_not] at hfb
          rcases hfb with y | y
          · exact y z.1
          · exact z.2 (by simpa using y)
        · rfl
      rw [hh]
    · have hfb : formB d = true := by simpa using hf
      obtain ⟨dn, b, ms, rfl, hb1, hms0⟩ : ∃ dn b ms, d = .tuple [dn, .int b, .tuple ms] ∧ 1 ≤ b ∧ ms ≠ [] := by
        unfold formB at hfb
        split at hfb
        · rw [Bool.and_eq_true] at hfb
          refine ⟨_, _, _, rfl, of_decide_eq_true hfb.1, ?_⟩
          intro z
          rw [z] at hfb
          cases hfb.2
        · cases hfb
      cases hd with
      | tup hs ha =>
      rename_i a xs
      obtain ⟨x, y, z, rfl, h1, h2, h3⟩ := dxa3 ha
      simp only [shorts, shortss] at hsh
      refine s_asg (ev_ixT (v := x) (ev_var rfl) ev_c (ex_t (e01.trans e2) hs) rfl) fun H3 e3 => hR _ _ ⟨(e01.trans e2).trans e3, x, dn, rfl, dx_mono ((e01.trans e2).trans e3) h1, hsh.1, fun n hn => ?_, fun hn => ?_⟩
      · subst hn
        exact ⟨ms, by simp only [hdM]; rw [if_pos ⟨hb1, hms0⟩]⟩
      · cases dn with
        | str n => exact (hn n rfl).elim
        | _ => rfl
  · intro hb H1 e1
    have e01 := e0.trans e1
    refine ⟨e01, v, d, rfl, dx_mono e01 hd, hsh, fun n hn => ?_, fun hn => ?_⟩
    · subst hn
      exact ⟨[], rfl⟩
    · cases d with
      | str n => exact (hn n rfl).elim
      | _ => cases hb
theorem ok_is_plan (T : Tp w K mg) : FnOk P w K mg base CX0 5 T.f_is_plan T.d_is_plan ["thing"] (spIsPlan K) := by
  refine T.F_is_plan.ok sc_is_plan (fun vs H Q E h => ?_) (fun cdv A outer s H vs Q E hr h => ?_)
  · obtain ⟨v, d, rfl, _⟩ := h
    rfl
  obtain ⟨v, d, rfl, hd, hsh, hdp, hnd, q⟩ := h
  refine ⟨_, (pss_cons (ps_if (pt_val (pe_callB (isiK (K := K) rfl) rfl T.z_isinstance (by decide +kernel) (pa_cons (pv 0) (pa_cons (pe_bltn (v := .ty "str") rfl T.z_str (by decide +kernel) rfl) pa_nil (star1 rfl)) (star1 rfl)) (by decide) (by decide) (star1 rfl) (starAll rfl))) (pss_one (ps_ret pe_bl)) pss_nil)
  (pss_cons (ps_set (i := 1) sc_is_plan.nd rfl (Or.inl rfl) pe_dnewK)
  (pss_cons (ps_set (i := 2) sc_is_plan.nd rfl (Or.inl rfl) (pe_lst (pa_cons (pv 0) pa_nil (star1 rfl))))
  (pss_cons (ps_while PassesOwn.never (truK (K := K) rfl (pv 2) (by intro _; rfl)) (pss_cons (ps_set (i := 3) sc_is_plan.nd rfl (Or.inl rfl) (pe_bm0 PySem.F.plainAttrs_list PySem.F.slot_list_pop PySem.F.type_list_pop mt_pop (pv 2)))
  (pss_cons (ps_if (pt_not (pt_val (pe_call (ok_member_fits T) (hr.mono (by decide)) rfl T.m_member_fits T.F_member_fits.kp (b_member_fits T) .nil pass0 (pa_cons (pv 3) (pa_cons (pv 1) pa_nil (star1 rfl)) (star1 rfl)) (by decide) (star1 rfl) (starAll rfl)))) (pss_one (ps_ret pe_bl)) pss_nil)
  (pss_one (ps_if (pt_not (pt_val (pe_callB (isiK (K := K) rfl) rfl T.z_isinstance (by decide +kernel) (pa_cons (pv 3) (pa_cons (pe_bltn (v := .ty "str") rfl T.z_str (by decide +kernel) rfl) pa_nil (star1 rfl)) (star1 rfl)) (by decide) (by decide) (star1 rfl) (starAll rfl)))) (pss_one (ps_expr (pe_bm PySem.F.plainAttrs_list PySem.F.slot_list_extend PySem.F.type_list_extend (mt_extendT (K := K) rfl) (pv 2) (pa_cons (pe_ix (ixTK (K := K) rfl) (pv 3) pe_int (fun _ _ => rfl)) pa_nil (star1 rfl))))) pss_nil)))))
  (pss_one (ps_ret pe_bl)))))), ?_⟩
  refine q_when (et_B (ev_isX (ev_var rfl) hd (kt_str d))) (fun hb H1 e1 => ?_) (fun hb H1 e1 => ?_)
  · refine s_ret ev_c fun H2 e2 => ?_
    have e : planB d = false := by
      cases d with
      | str s => rfl
      | _ => cases hb
    have q2 := q H2 (e1.trans e2)
    rw [e] at q2
    exact q2
  have hns : ∀ s, d ≠ .str s := fun s z => by
    subst z
    cases hb
  refine q_asgP ?_
  intro sd hsd
  have eS : Ex H1 (upd H1 sd (.dK [])) := Ex.new hsd
  refine q_asgP ?_
  refine ⟨_, rfl, (by show 1 ≤ sizeLine; decide), fun wl hwl => ?_⟩
  generalize hH2 : upd (upd H1 sd (.dK [])) wl (.lst [v]) = H2
  have eW : Ex (upd H1 sd (.dK [])) H2 := by rw [← hH2]; exact Ex.new hwl
  have e2 : Ex H H2 := (e1.trans eS).trans eW
  have sdH : H sd = none := fresh_back e1 hsd
  have wlH : H wl = none := fresh_back (e1.trans eS) hwl
  have swl : sd ≠ wl := fun z => by
    subst z
    rw [upd_same] at hwl
    cases hwl
  have hsd2 : H2 sd = some (.dK (([] : List Str).map ky)) := eW _ _ upd_same
  have hwl2 : H2 wl = some (.lst [v]) := by rw [← hH2]; exact upd_same
  refine q_while (fun m σ' H' => Ex H H' ∧ ∃ (ns : List Str) (ws : List V) (ds : List PyData) (c : Option V), σ' = [some v, some (.ref sd), some (.ref wl), c] ∧ H' sd = some (.dK (ns.map ky)) ∧ H' wl = some (.lst ws) ∧ DxAll K H ws ds ∧ shortss ds ∧ pileB ds ns = planB d ∧ ns.length + nodess ds ≤ nodes d ∧ nodess ds = m) (nodes d) ?_ ?_
  · exact ⟨e2, [], [v], [d], none, rfl, hsd2, hwl2, .cons hd .nil, ⟨hsh, trivial⟩, (pile_plan hns).symm, by simp [nodess], by simp [nodess]⟩
  intro m σ' H3 hW
  obtain ⟨e3, ns, ws, ds, c, rfl, hsd3, hwl3, hda, hss, hpl, hsz, rfl⟩ := hW
  refine ⟨!ws.isEmpty, et_truL (ev_var rfl) hwl3, fun hb H4 e4 => ?_, fun hb H4 e4 => ?_⟩
  · have hne : ds ≠ [] := fun z => by
      subst z
      cases hda
      cases hb
    obtain ⟨us, x, es, dm, rfl, rfl, hua, hxm⟩ := dxa_snoc hda hne
    rw [nodess_app] at hsz
    simp only [nodess] at hsz
    obtain ⟨hs1, hs2⟩ := shortss_app.mp hss
    have hls := len_nodess es
    refine ⟨fun σ2 H' => Ex H H' ∧ ∃ (ns2 : List Str) (ws2 : List V) (ds2 : List PyData) (c : Option V), σ2 = [some v, some (.ref sd), some (.ref wl), c] ∧ H' sd = some (.dK (ns2.map ky)) ∧ H' wl = some (.lst ws2) ∧ DxAll K H ws2 ds2 ∧ shortss ds2 ∧ pileB ds2 ns2 = planB d ∧ ns2.length + nodess ds2 ≤ nodes d ∧ nodess ds2 < nodess (es ++ [dm]), fun σ2 H' hN => ?_, ?_⟩
    · obtain ⟨a1, ns2, ws2, ds2, c, a2, a3, a4, a5, a6, a7, a8, a9⟩ := hN
      exact ⟨nodess ds2, a9, a1, ns2, ws2, ds2, c, a2, a3, a4, a5, a6, a7, a8, rfl⟩
    refine q_asgP ?_
    refine ⟨.ref wl, rfl, Or.inl ⟨rfl, _, sq_of (e4 _ _ hwl3)⟩, wl, us ++ [x], x, rfl, rfl, e4 _ _ hwl3, by simp, ?_⟩
    generalize hH5 : upd H4 wl (.lst ((us ++ [x]).dropLast)) = H5
    have hwl5 : H5 wl = some (.lst us) := by rw [← hH5, upd_same, List.dropLast_concat]
    have e5 : Ex H H5 := by rw [← hH5]; exact Ex.mut (e3.trans e4) wlH
    have hsd5 : H5 sd = some (.dK (ns.map ky)) := by rw [← hH5, upd_ne swl]; exact e4 _ _ hsd3
    have hdm := nodes_pos dm
    refine q_notB ?_
    refine ⟨_, rfl, _, rfl, x, dm, sd, ns, rfl, dx_mono e5 hxm, hs2.1, hsd5, by omega, fun b2 ms H6 kd6 hsd6 ht hf => ⟨b2, rfl, ?_⟩⟩
    have e6 : Ex H H6 := fun a o ha => kd6 a o (fun z => by rw [z, sdH] at ha; cases ha) (e5 _ _ ha)
    have hwl6 : H6 wl = some (.lst us) := kd6 _ _ (Ne.symm swl) hwl5
    cases b2 with
    | false =>
      refine iteT ?_
      refine s_ret ev_c fun H7 e7 => ?_
      have q2 := q H7 (e6.trans e7)
      rw [← hpl, pile_stop (hf rfl)] at q2
      exact q2
    | true =>
      refine iteF ?_
      obtain ⟨n, is, hh, hnb, hni, rfl⟩ := ht rfl
      rw [pile_step hh hnb hni] at hpl
      have hmn := hdM_nodes hh
      refine s_when (et_not (et_B (ev_isX (ev_var rfl) (dx_mono e6 hxm) (kt_str dm)))) (fun hb2 H7 e7 => ?_) (fun hb2 H7 e7 => ?_)
      · obtain ⟨b, rfl⟩ : ∃ b, dm = .tuple [.str n, .int b, .tuple is] := by
          unfold hdM at hh
          split at hh
          · cases hb2
          · split at hh
            · cases hh
              exact ⟨_, rfl⟩
            · cases hh
          · cases hh
        cases hxm with
        | tup hs ha =>
        rename_i a xs
        obtain ⟨x1, y1, z1, rfl, h1, h2, h3⟩ := dxa3 ha
        cases h3 with
        | tup hs3 ha3 =>
        rename_i ma mxs
        have hml := dxa_len ha3
        have hli := len_nodess is
        have hul := dxa_len hua
        refine s_dropP ?_
        refine ⟨.ref wl, rfl, Or.inl ⟨rfl, _, sq_of (e7 _ _ hwl6)⟩, _, rfl, a, _, 2, .ref ma, rfl, rfl, ex_t (e6.trans e7) hs, rfl, wl, ma, us, mxs, rfl, rfl, e7 _ _ hwl6, ex_t (e6.trans e7) hs3, ?_, ?_⟩
        · exact Nat.le_of_lt (sz_lt (by omega))
        refine ⟨Ex.mut (e6.trans e7) wlH, ns ++ [n], us ++ mxs, es ++ is, _, rfl, ?_, upd_same, dxa_app ha3 hua, shortss_app.mpr ⟨hs1, hdM_shorts hh hs2.1⟩, hpl, ?_, ?_⟩
        · rw [upd_ne swl]; exact e7 _ _ hsd6
        · rw [nodess_app, List.length_append, List.length_singleton]; omega
        · rw [nodess_app, nodess_app]; simp only [nodess]; omega
      · have hi : is = [] := by
          cases dm with
          | str s => cases hh; rfl
          | _ => cases hb2
        subst hi
        rw [List.append_nil] at hpl
        refine ⟨e6.trans e7, ns ++ [n], us, es, _, rfl, e7 _ _ hsd6, e7 _ _ hwl6, hua, hs1, hpl, ?_, ?_⟩
        · rw [List.length_append, List.length_singleton]; omega
        · rw [nodess_app]; simp only [nodess]; omega
  · have hz : ds = [] := by
      cases hda with
      | nil => rfl
      | cons _ _ => cases hb
    subst hz
    refine s_ret ev_c fun H5 e5 => ?_
    have q2 := q H5 ((e3.trans e4).trans e5)
    rw [← hpl, pile_nil] at q2
    exact q2
end

/-! ### the program's rows of a plan -/
def spAF (K : PySem.W.Frag) (d : Nat) : Sp := fun vs H Q _ => ∃ (v : V) (pa : Addr) (n : Str) (b : Int) (ms : List Tr) (p : List Str), vs = [v, .ref pa] ∧ TrV H v (.grp n b ms) ∧ H pa = some (.tup (p.map V.str)) ∧ (Tr.grp n b ms).deep ≤ d ∧ (Tr.grp n b ms).size ≤ 1000 ∧ p.length + d ≤ 1000 ∧
  ∀ r xs H', Ex H H' → H r = none → H' r = some (.lst xs) → RowsB H' xs ((Tr.grp n b ms).rows p) → Q (.ref r) H'
def spAll (K : PySem.W.Frag) : Sp := fun vs H Q _ => ∃ (v : V) (n : Str) (b : Int) (ms : List Tr), vs = [v] ∧ TrV H v (.grp n b ms) ∧ (Tr.grp n b ms).deep ≤ 12 ∧ (Tr.grp n b ms).size ≤ 1000 ∧
  ∀ r xs H', Ex H H' → H r = none → H' r = some (.lst xs) → RowsB H' xs ((Tr.grp n b ms).rows []) → Q (.ref r) H'
def spNames (K : PySem.W.Frag) (f : Tr → List Str) : Sp := fun vs H Q _ => ∃ (v : V) (n : Str) (b : Int) (ms : List Tr), vs = [v] ∧ TrV H v (.grp n b ms) ∧ (Tr.grp n b ms).deep ≤ 12 ∧ (Tr.grp n b ms).size ≤ 1000 ∧
  ∀ a H', Ex H H' → H' a = some (.tup ((f (.grp n b ms)).map V.str)) → Q (.ref a) H'
def spPath (K : PySem.W.Frag) : Sp := fun vs H Q _ => ∃ (v : V) (n : Str) (b : Int) (ms : List Tr) (x : Str) (r : Rw), vs = [v, .str x] ∧ TrV H v (.grp n b ms) ∧ (Tr.grp n b ms).deep ≤ 12 ∧ (Tr.grp n b ms).size ≤ 1000 ∧
  ((Tr.grp n b ms).told []).find? (fun r => decide (r.1 = x)) = some r ∧ ∀ a H', Ex H H' → H' a = some (.tup (r.2.2.map V.str)) → Q (.ref a) H'
section
variable {P : Program} {w : World} {K : PySem.W.Frag} {mg : Str → Option Value} {base : Heap}
theorem af_none (T : Tp w K mg) : FnOk P w K mg base CX0 0 T.f_all_from T.d_all_from ["group", "around"] (spAF K 0) := by
  have no : ∀ vs H Q E, ¬ spAF K 0 vs H Q E := fun vs H Q E h => by
    obtain ⟨v, pa, n, b, ms, p, _, _, _, hd, _⟩ := h
    simp [Tr.deep] at hd
  exact ⟨fun vs H Q E h => (no vs H Q E h).elim, fun A outer s H args us vs Q E _ _ _ _ h => (no vs H Q E h).elim⟩
theorem af_more (T : Tp w K mg) {d : Nat} (ih : FnOk P w K mg base CX0 d T.f_all_from T.d_all_from ["group", "around"] (spAF K d)) : FnOk P w K mg base CX0 (d + 1) T.f_all_from T.d_all_from ["group", "around"] (spAF K (d + 1)) := by
  refine T.F_all_from.ok sc_all_from (fun vs H Q E h => ?_) (fun cdv A outer s H vs Q E hr h => ?_)
  · obtain ⟨v, pa, n, b, ms, p, rfl, _⟩ := h
    rfl
  obtain ⟨v, pa, n, b, ms, p, rfl, hv, hpa, hdeep, hsize, hpl, q⟩ := h
  cases hv with
  | grp h1 h2 h3 =>
  rename_i a m xs
  refine ⟨_, (pss_cons (ps_asg (pv 0) (pg_tup rfl (pgs_cons (pg_name (i := 2) sc_all_from.nd rfl (Or.inl rfl)) (pgs_cons (pg_name (i := 3) sc_all_from.nd rfl (Or.inl rfl)) (pgs_cons (pg_name (i := 4) sc_all_from.nd rfl (Or.inl rfl)) pgs_nil)))))
  (pss_cons (ps_set (i := 5) sc_all_from.nd rfl (Or.inl rfl) (pe_lst (pa_cons (pe_tup (pa_cons (pv 2) (pa_cons (pv 3) (pa_cons (pv 1) pa_nil (star1 rfl)) (star1 rfl)) (star1 rfl))) pa_nil (star1 rfl))))
  (pss_cons (ps_set (i := 6) sc_all_from.nd rfl (Or.inl rfl) (pe_tup (pa_cons (pv 2) (StX.pa_star (pv 1) pa_nil) (star1 rfl))))
  (pss_cons (ps_for PassesOwn.never rfl (pi_tup (pv 4)) (pg_name (i := 7) sc_all_from.nd rfl (Or.inl rfl)) (pss_one (ps_if (pt_val (pe_callB (isiK (K := K) rfl) rfl T.z_isinstance (by decide +kernel) (pa_cons (pv 7) (pa_cons (pe_bltn (v := .ty "str") rfl T.z_str (by decide +kernel) rfl) pa_nil (star1 rfl)) (star1 rfl)) (by decide) (by decide) (star1 rfl) (starAll rfl))) (pss_one (ps_expr (pe_bm PySem.F.plainAttrs_list PySem.F.slot_list_append PySem.F.type_list_append mt_append (pv 5) (pa_cons (pe_tup (pa_cons (pv 7) (pa_cons pe_non (pa_cons (pv 6) pa_nil (star1 rfl)) (star1 rfl)) (star1 rfl))) pa_nil (star1 rfl))))) (pss_one (ps_expr (pe_bm PySem.F.plainAttrs_list PySem.F.slot_list_extend PySem.F.type_list_extend mt_extend (pv 5) (pa_cons (pe_call ih hr rfl T.m_all_from T.F_all_from.kp (b_all_from T) .nil pass0 (pa_cons (pv 7) (pa_cons (pv 6) pa_nil (star1 rfl)) (star1 rfl)) (by decide) (star1 rfl) (starAll rfl)) pa_nil (star1 rfl))))))))
  (pss_one (ps_ret (pv 5))))))), ?_⟩
  -- name, bound, members = group
  refine q_asgG ?_
  refine ⟨_, rfl, a, _, rfl, st_of h1, rfl, _, _, rfl, _, _, rfl, _, _, rfl, rfl, ?_⟩
  -- rows = [(name, bound, around)]
  refine q_asgP ?_
  refine ⟨_, rfl, _, rfl, _, rfl, (by show 3 ≤ sizeLine; decide), fun t1 ht1 => ⟨(by show 1 ≤ sizeLine; decide), fun r hr1 => ?_⟩⟩
  generalize hH1 : upd (upd H t1 (.tup [.str n, .int b, .ref pa])) r (.lst [.ref t1]) = H1
  have e1 : Ex H H1 := by rw [← hH1]; exact (Ex.new ht1).trans (Ex.new hr1)
  have rH : H r = none := fresh_back (Ex.new ht1) hr1
  have hr2 : H1 r = some (.lst [.ref t1]) := by rw [← hH1]; exact upd_same
  have row1 : RowB H1 (.ref t1) (n, some b, p) := ⟨t1, pa, rfl, by rw [← hH1]; exact (Ex.new hr1) _ _ upd_same, e1 _ _ hpa⟩
  -- inside = (name, *around)
  refine q_asgP ?_
  refine ⟨_, rfl, _, rfl, pa, p.map V.str, rfl, Or.inl (st_of (e1 _ _ hpa)), sz_of (by simp; omega), fun ia hia => ?_⟩
  generalize hH2 : upd H1 ia (.tup (V.str n :: (p.map V.str ++ []))) = H2
  have e2 : Ex H1 H2 := by rw [← hH2]; exact Ex.new hia
  have hin : H2 ia = some (.tup ((n :: p).map V.str)) := by
    rw [← hH2, upd_same, List.append_nil]
    rfl
  have e12 := e1.trans e2
  have hdp : deeps ms ≤ d := by simp only [Tr.deep] at hdeep; omega
  have hsz : sizes ms ≤ 1000 := by simp only [Tr.size] at hsize; omega
  -- for member in members
  refine q_forT (K := K) (a := m) (xs := xs) (ev_var rfl) (st_of (e12 _ _ h2)) (fun i σ' H' => Ex H H' ∧ H' ia = some (.tup ((n :: p).map V.str)) ∧ ∃ ys c, σ' = [some (.ref a), some (.ref pa), some (.str n), some (.int b), some (.ref m), some (.ref r), some (.ref ia), c] ∧ H' r = some (.lst ys) ∧ RowsB H' ys ((n, some b, p) :: rowss (ms.take i) (n :: p))) ?_ ?_ ?_ ?_
  · intro H3 e3
    refine ⟨e12.trans e3, e3 _ _ hin, [.ref t1], none, rfl, e3 _ _ (e2 _ _ hr2), ?_⟩
    simp only [List.take_zero, rowss]
    exact RowsB.one (row1.tk (TK.ex (e2.trans e3)))
  · intro i σ' H' _ hP
    exact st_of (hP.1 _ _ h2)
  · intro i x σ' H' hx hP
    obtain ⟨e3, hin3, ys, c, rfl, hr3, hrows⟩ := hP
    obtain ⟨t, ht, tv⟩ := trvs_get h3 hx
    have tv3 := trv_tk (TK.ex e3) t x tv
    have hyl : ys.length ≤ 1001 := by
      have := hrows.len
      simp only [List.length_cons, rowss_len] at this
      have := sizes_take ms i
      omega
    have hstep : (n, some b, p) :: rowss (ms.take (i + 1)) (n :: p) = ((n, some b, p) :: rowss (ms.take i) (n :: p)) ++ t.rows (n :: p) := by
      rw [rowss_take ms i t (n :: p) ht]
      rfl
    refine s_if (et_B (ev_isHand (ev_var rfl) tv3)) (fun hb H4 e4 => ?_) (fun hb H4 e4 => ?_)
    · cases tv3 with
      | hand nm =>
        refine ⟨.ref r, rfl, Or.inl ⟨rfl, ys, sq_of (e4 _ _ hr3)⟩, _, rfl, _, rfl, (by show 3 ≤ sizeLine; decide), fun t2 ht2 => ?_⟩
        refine ⟨r, ys, _, rfl, rfl, (Ex.new ht2) _ _ (e4 _ _ hr3), sz_lt (by omega), ?_⟩
        generalize hH5 : upd H4 t2 (.tup [.str nm, .non, .ref ia]) = H5
        have e5 : Ex H4 H5 := by rw [← hH5]; exact Ex.new ht2
        have hr5 : H5 r = some (.lst ys) := e5 _ _ (e4 _ _ hr3)
        have k5 : TK H5 (upd H5 r (.lst (ys ++ [.ref t2]))) := TK.lst hr5
        refine ⟨Ex.mut ((e3.trans e4).trans e5) rH, k5 _ _ (e5 _ _ (e4 _ _ hin3)), ys ++ [.ref t2], _, rfl, upd_same, ?_⟩
        rw [hstep]
        refine RowsB.tk k5 ((hrows.tk (TK.ex (e4.trans e5))).app (RowsB.one ⟨t2, ia, rfl, by rw [← hH5]; exact upd_same, e5 _ _ (e4 _ _ hin3)⟩))
      | grp _ _ _ => cases hb
    · cases tv3 with
      | hand nm => cases hb
      | grp g1 g2 g3 =>
        rename_i a' m' n' b' xs' ms'
        refine ⟨.ref r, rfl, Or.inl ⟨rfl, ys, sq_of (e4 _ _ hr3)⟩, _, rfl, _, rfl, .ref a', ia, n', b', ms', n :: p, rfl, trv_tk (TK.ex e4) _ _ (.grp g1 g2 g3), e4 _ _ hin3, ?_, ?_, ?_, fun b2 zs H5 e5 hb2 hb5 hrw => ?_⟩
        · have := deeps_mem ht
          omega
        · have := sizes_mem ht
          omega
        · simp only [List.length_cons]
          omega
        have hr5 : H5 r = some (.lst ys) := e5 _ _ (e4 _ _ hr3)
        have hzl := hrw.len
        rw [rows_len] at hzl
        have := sizes_mem ht
        refine ⟨r, b2, ys, zs, rfl, rfl, hr5, hb5, sz_of (by omega), ?_⟩
        have k5 : TK H5 (upd H5 r (.lst (ys ++ zs))) := TK.lst hr5
        refine ⟨Ex.mut ((e3.trans e4).trans e5) rH, k5 _ _ (e5 _ _ (e4 _ _ hin3)), ys ++ zs, _, rfl, upd_same, ?_⟩
        rw [hstep]
        exact RowsB.tk k5 ((hrows.tk (TK.ex (e4.trans e5))).app hrw)
  · intro σ' H' hP
    obtain ⟨e3, hin3, ys, c, rfl, hr3, hrows⟩ := hP
    rw [trvs_len h3, List.take_length] at hrows
    refine s_ret (v := .ref r) (ev_var rfl) fun H4 e4 => q r ys H4 (e3.trans e4) rH (e4 _ _ hr3) ?_
    simp only [Tr.rows]
    exact hrows.tk (TK.ex e4)
theorem af_all (T : Tp w K mg) : ∀ d, FnOk P w K mg base CX0 d T.f_all_from T.d_all_from ["group", "around"] (spAF K d)
  | 0 => af_none T
  | d + 1 => af_more T (af_all T d)
theorem ok_all_from (T : Tp w K mg) : FnOk P w K mg base CX0 12 T.f_all_from T.d_all_from ["group", "around"] (spAF K 12) := af_all T 12
theorem ok_all_in (T : Tp w K mg) : FnOk P w K mg base CX0 13 T.f_all_in T.d_all_in ["plan"] (spAll K) := by
  refine T.F_all_in.ok sc_all_in (fun vs H Q E h => ?_) (fun cdv A outer s H vs Q E hr h => ?_)
  · obtain ⟨v, n, b, ms, rfl, _⟩ := h
    rfl
  obtain ⟨v, n, b, ms, rfl, hv, hd, hs, q⟩ := h
  refine ⟨_, (pss_one (ps_ret (pe_call (ok_all_from T) (hr.mono (by decide)) rfl T.m_all_from T.F_all_from.kp (b_all_from T) .nil pass0 (pa_cons (pv 0) (pa_cons (pe_tup pa_nil) pa_nil (star1 rfl)) (star1 rfl)) (by decide) (star1 rfl) (starAll rfl)))), ?_⟩
  refine s_retP ?_
  refine ⟨_, rfl, (by show 0 ≤ sizeLine; decide), fun t ht => ⟨v, t, n, b, ms, [], rfl, trv_tk (TK.new ht) _ _ hv, upd_same, hd, hs, by decide, fun r xs H' e hr' h1 h2 => ?_⟩⟩
  exact q r xs H' ((Ex.new ht).trans e) (fresh_back (Ex.new ht) hr') h1 h2
end

section
variable {P : Program} {w : World} {K : PySem.W.Frag} {mg : Str → Option Value} {base : Heap}
theorem ok_hands_of (T : Tp w K mg) : FnOk P w K mg base CX0 14 T.f_hands_of T.d_hands_of ["plan"] (spNames K handsOf) := by
  refine T.F_hands_of.ok sc_hands_of (fun vs H Q E h => ?_) (fun cdv A outer s H vs Q E hr h => ?_)
  · obtain ⟨v, n, b, ms, rfl, _⟩ := h
    rfl
  obtain ⟨v, n, b, ms, rfl, hv, hdp, hsz, q⟩ := h
  refine ⟨_, (pss_one (ps_ret (pe_callTy call_tuple_of rfl T.z_tuple (by decide +kernel) (pa_cons (pe_lc (own := [("name", 1), ("bound", 2), ("path", 3)]) (g := gTup K 3 (gCons (gName 1) (gCons (gName 2) (gCons (gName 3) gNil)))) rfl sc_hands_of.nd (pi_list (pe_call (ok_all_in T) (hr.mono (by decide)) rfl T.m_all_in T.F_all_in.kp (b_all_in T) .nil pass0 (pa_cons (pv 0) pa_nil (star1 rfl)) (by decide) (star1 rfl) (starAll rfl))) (blkOk_by (N := N_hands_of) (sc := defScope s_hands_of) (by decide +kernel)) (fun _ _ _ _ _ => (pg_tup rfl (pgs_cons (pg_name (i := 1) sc_hands_of.nd rfl (Or.inl rfl)) (pgs_cons (pg_name (i := 2) sc_hands_of.nd rfl (Or.inl rfl)) (pgs_cons (pg_name (i := 3) sc_hands_of.nd rfl (Or.inl rfl)) pgs_nil))))) (fun _ _ _ _ _ => (pts_one (pt_cmp (pc_isN (pv 2))))) (fun _ _ _ _ _ => (pv 1))) pa_nil (star1 rfl)) (by decide) (by decide) (star1 rfl) (starAll rfl)))), ?_⟩
  refine s_retP ?_
  refine ⟨_, rfl, v, n, b, ms, rfl, hv, hdp, hsz, fun r xs H1 e1 hr1 h1 rows => ⟨r, rfl, ⟨xs, sq_of h1⟩, fun D hD => ?_⟩⟩
  generalize hrs : (Tr.grp n b ms).rows [] = rs at rows
  have hlen : rs.length ≤ 1000 := by rw [← hrs, rows_len]; exact hsz
  have hxl := rows.len
  refine lc_list (K := K) (a := r) (xs := xs) (fun i H' => Ex H1 H' ∧ H' D = some (.lst (((rs.take i).filter fun r => !r.2.1.isSome).map fun r => V.str r.1))) ⟨Ex.new hD, upd_same⟩ (fun i H' _ hP => sq_of (hP.1 _ _ h1)) ?_ ?_
  · intro i x H' hx hP
    obtain ⟨e2, hacc⟩ := hP
    obtain ⟨rw', hrw, a, pa, rfl, ha, hpa⟩ := rows.get hx
    obtain ⟨nm, g, p⟩ := rw'
    refine ⟨a, _, rfl, st_of (e2 _ _ ha), rfl, _, _, rfl, _, _, rfl, _, _, rfl, rfl, rfl, _, rfl, _, rfl, ?_⟩
    have hl2 : (((rs.take i).filter fun r => !r.2.1.isSome).map fun r => V.str r.1).length ≤ 1000 := by
      rw [List.length_map]
      exact Nat.le_trans (List.length_filter_le _ _) (by rw [List.length_take]; omega)
    cases g with
    | none =>
      refine iteT ?_
      refine ⟨_, rfl, _, hacc, sz_lt (by omega), Ex.mut e2 hD, ?_⟩
      rw [upd_same, filter_take hrw]
      simp
    | some bd =>
      refine iteF ?_
      refine ⟨e2, ?_⟩
      rw [hacc, filter_take hrw]
      simp
  · intro H' hP
    obtain ⟨e2, hacc⟩ := hP
    rw [hxl, List.take_length] at hacc
    refine ⟨D, _, rfl, Or.inl ⟨sq_of hacc, fun t ht => ?_⟩⟩
    refine q t _ ((e1.trans e2).trans (Ex.new ht)) ?_
    rw [upd_same]
    rw [hands_rows, hrs, List.map_map]
    rfl
end

/-! ### what the program takes for a book -/
def pairB : PyData → Bool
  | .tuple [.str _, p] => progFits p
  | _ => false
def pairName : PyData → Str
  | .tuple (.str z :: _) => z
  | _ => ""
def bookB (ys : List Str) : PyData → Bool
  | .tuple ds => ds.all pairB && decide (ds.map pairName = ys)
  | _ => false
theorem rows_small {d : PyData} (h : nodes d ≤ 20000) : rowsSmall d := by
  cases d with
  | tuple ds =>
    simp only [nodes] at h
    have hl := nodes_lenB ds
    refine ⟨by omega, fun e he es h2 => ?_⟩
    subst h2
    have h1 := nodes_memB he
    simp only [nodes] at h1
    have := nodes_lenB es
    omega
  | _ => trivial
theorem asc_lay {z : Str} (h : asc z) : PyData.strOk z = true := by
  unfold PyData.strOk
  rw [Array.all_eq_true']
  intro c hc
  have := h c (by simpa using hc)
  simp
  omega
theorem shapedL {xs : List Str} (h : ∀ n ∈ xs, asc n) : SeqAt.shaped (.list (xs.map PyData.str)) = true := by
  have a : ∀ {xs : List Str}, (∀ n ∈ xs, asc n) → PyData.canLayAll0 (xs.map PyData.str) = true ∧ PyData.depthAll (xs.map PyData.str) = 0 := by
    intro xs
    induction xs with
    | nil => intro _; simp [PyData.canLayAll0, PyData.depthAll]
    | cons n p ih =>
      intro h
      have i := ih (fun m hm => h m (List.mem_cons_of_mem _ hm))
      simp [PyData.canLayAll0, PyData.canLay0, PyData.depthAll, PyData.depth, asc_lay (h n (List.mem_cons_self ..)), i.1, i.2]
  obtain ⟨b, c⟩ := a h
  have d : PyData.canLay0 (.list (xs.map PyData.str)) = true := by
    simp only [PyData.canLay0]
    exact b
  have e : PyData.depth (.list (xs.map PyData.str)) ≤ 64 := by
    simp only [PyData.depth]
    omega
  unfold SeqAt.shaped
  rw [d, decide_eq_true e]
  rfl
def spPair (K : PySem.W.Frag) : Sp := fun vs H Q _ => ∃ v d, vs = [v] ∧ Dx K H v d ∧ nodes d ≤ 20000 ∧ ∀ H', Ex H H' → Q (.bl (pairB d)) H'
def spBook (K : PySem.W.Frag) : Sp := fun vs H Q _ => ∃ (v u : V) (n : Str) (b : Int) (ms : List Tr) (d : PyData) (B : Nat), vs = [v, u] ∧ TrV H v (.grp n b ms) ∧ (Tr.grp n b ms).deep ≤ 12 ∧ (Tr.grp n b ms).size < 64 ∧ (∀ x ∈ (Tr.grp n b ms).nms, nameOk x) ∧ Dx K H u d ∧ nodes d ≤ 20000 ∧ okD B d ∧
  ∀ ys H', ys.Perm (handsOf (.grp n b ms)) → PyProof.Rows.sortedS ys = true → Ex H H' → Q (.bl (bookB ys d)) H'
section
variable {P : Program} {w : World} {K : PySem.W.Frag} {mg : Str → Option Value} {base : Heap}
theorem ok_pair_fits (T : Tp w K mg) : FnOk P w K mg base CX0 7 T.f_pair_fits T.d_pair_fits ["pair"] (spPair K) := by
  refine T.F_pair_fits.ok sc_pair_fits (fun vs H Q E h => ?_) (fun cdv A outer s H vs Q E hr h => ?_)
  · obtain ⟨v, d, rfl, _⟩ := h
    rfl
  obtain ⟨v, d, rfl, hd, hz, q⟩ := h
  refine ⟨_, (pss_one (ps_ret (pe_and (pe_call (ok_is_tuple_of T) (hr.mono (by decide)) rfl T.m_is_tuple_of T.F_is_tuple_of.kp (b_is_tuple_of T) .nil pass0 (pa_cons (pv 0) (pa_cons pe_int pa_nil (star1 rfl)) (star1 rfl)) (by decide) (star1 rfl) (starAll rfl)) (pe_and (pe_callB (isiK (K := K) rfl) rfl T.z_isinstance (by decide +kernel) (pa_cons (pe_ix (ixTK (K := K) rfl) (pv 0) pe_int (fun _ _ => rfl)) (pa_cons (pe_bltn (v := .ty "str") rfl T.z_str (by decide +kernel) rfl) pa_nil (star1 rfl)) (star1 rfl)) (by decide) (by decide) (star1 rfl) (starAll rfl)) (pe_one (pe_call (ok_is_program T) (hr.mono (by decide)) rfl T.m_is_program T.F_is_program.kp (b_is_program T) .nil pass0 (pa_cons (pe_ix (ixTK (K := K) rfl) (pv 0) pe_int (fun _ _ => rfl)) pa_nil (star1 rfl)) (by decide) (star1 rfl) (starAll rfl))))))), ?_⟩
  refine s_ret (ev_is (ev_andV (a := tupOf d 2) (b := pairB d) (ev_call (ea_cons (ev_var rfl) (ea_cons ev_c ea_nil)) fun H1 e1 Q' q' E' => ⟨v, d, 2, rfl, dx_mono e1 hd, q'⟩) fun ht => ?_) ?_) q
  · cases hd with
    | tup hs ha =>
      rename_i a xs ds
      have hl := dxa_len ha
      simp only [tupOf, decide_eq_true_eq] at ht
      match ds, ha, hz, ht with
      | [x, y], ha, hz, _ =>
        cases ha with
        | cons h1 t =>
          cases t with
          | cons h2 t =>
            cases t
            rename_i v1 v2
            refine ev_is (ev_andV (a := isStrB x) (b := progFits y) (ev_isX (ev_ixT (ev_var rfl) ev_c hs rfl) h1 (kt_str x)) fun hx => ?_) ?_
            · simp only [nodes, nodess] at hz
              exact ev_call (vs := [v2]) (ea_cons (ev_ixT (ev_var rfl) ev_c hs rfl) ea_nil) fun H1 e1 Q' q' E' => ⟨v2, y, rfl, dx_mono e1 h2, rows_small (by omega), q'⟩
            · cases x <;> simp [pairB, isStrB]
      | [], _, _, h => simp at h
      | [_], _, _, h => simp at h
      | _ :: _ :: _ :: _, _, _, h => simp at h; omega
    | _ => cases ht
  · cases hp : pairB d with
    | false => simp
    | true =>
      have : tupOf d 2 = true := by
        unfold pairB at hp
        split at hp
        · rfl
        · cases hp
      rw [this]
      rfl
theorem ok_is_book (T : Tp w K mg) : FnOk P w K mg base CX0 15 T.f_is_book T.d_is_book ["plan", "thing"] (spBook K) := by
  refine T.F_is_book.ok sc_is_book (fun vs H Q E h => ?_) (fun cdv A outer s H vs Q E hr h => ?_)
  · obtain ⟨v, u, n, b, ms, d, B, rfl, _⟩ := h
    rfl
  obtain ⟨v, u, n, b, ms, d, B, rfl, tv, tdp, tsz, tnm, hd, hz, hok, q⟩ := h
  obtain ⟨ys0, hy0⟩ : ∃ ys : List Str, ys.Perm (handsOf (.grp n b ms)) ∧ PyProof.Rows.sortedS ys = true := sort_ex _
  refine ⟨_, (pss_cons (ps_if (pt_not (pt_val (pe_callB (isiK (K := K) rfl) rfl T.z_isinstance (by decide +kernel) (pa_cons (pv 1) (pa_cons (pe_bltn (v := .ty "tuple") rfl T.z_tuple (by decide +kernel) rfl) pa_nil (star1 rfl)) (star1 rfl)) (by decide) (by decide) (star1 rfl) (starAll rfl)))) (pss_one (ps_ret pe_bl)) pss_nil)
  (pss_cons (ps_if (pt_not (pt_val (pe_callB (allK (K := K) rfl rfl) rfl T.z_all (by decide +kernel) (pa_cons (pe_lc (own := [("pair", 4)]) (g := gName 4) (tt := tYes) rfl sc_is_book.nd (pi_tup (pv 1)) (blkOk_by (N := N_is_book) (sc := defScope s_is_book) (by decide +kernel)) (fun _ _ _ _ _ => (pg_name (i := 4) sc_is_book.nd rfl (Or.inl rfl))) (fun _ _ _ _ _ => pts_nil) (fun _ _ _ _ _ => (pe_call (ok_pair_fits T) (hr.mono (by decide)) rfl T.m_pair_fits T.F_pair_fits.kp (b_pair_fits T) .nil pass0 (pa_cons (pv 4) pa_nil (star1 rfl)) (by decide) (star1 rfl) (starAll rfl)))) pa_nil (star1 rfl)) (by decide) (by decide) (star1 rfl) (starAll rfl)))) (pss_one (ps_ret pe_bl)) pss_nil)
  (pss_one (ps_ret (pe_cmpR (eqDK (K := K) rfl (hu_e64 hr)) (pe_lc (own := [("name", 2), ("program", 3)]) (g := gTup K 2 (gCons (gName 2) (gCons (gName 3) gNil))) (tt := tYes) rfl sc_is_book.nd (pi_tup (pv 1)) (blkOk_by (N := N_is_book) (sc := defScope s_is_book) (by decide +kernel)) (fun _ _ _ _ _ => (pg_tup rfl (pgs_cons (pg_name (i := 2) sc_is_book.nd rfl (Or.inl rfl)) (pgs_cons (pg_name (i := 3) sc_is_book.nd rfl (Or.inl rfl)) pgs_nil)))) (fun _ _ _ _ _ => pts_nil) (fun _ _ _ _ _ => (pv 2))) (pe_callB (sortTK (K := K) rfl) rfl T.z_sorted (by decide +kernel) (pa_cons (pe_call (ok_hands_of T) (hr.mono (by decide)) rfl T.m_hands_of T.F_hands_of.kp (b_hands_of T) .nil pass0 (pa_cons (pv 0) pa_nil (star1 rfl)) (by decide) (star1 rfl) (starAll rfl)) pa_nil (star1 rfl)) (by decide) (by decide) (star1 rfl) (starAll rfl)) (nomark _)))))), ?_⟩
  refine q_when (et_not (et_B (ev_isX (ev_var rfl) hd (kt_tuple d)))) (fun hb H1 e1 => ?_) (fun hb H1 e1 => ?_)
  · refine s_ret ev_c fun H2 e2 => ?_
    have e : bookB ys0 d = false := by
      cases d <;> first | rfl | cases hb
    have q2 := q ys0 H2 hy0.1 hy0.2 (e1.trans e2)
    rw [e] at q2
    exact q2
  cases hd with
  | tup hs ha =>
  rename_i a xs ds
  have hl := dxa_len ha
  have hzl := nodes_lenB ds
  simp only [nodes] at hz
  have fits : Ev (tCB (rAll K) (tCons (tLc (iTup K (tVar 1)) (gName 2) tYes (tCall (spPair K) [] E0 (tCons (tVar 2) tNil)) [2]) tNil)) (start N_is_book [v, .ref a]) H1 (.bl (ds.all pairB)) := by
    refine ev_is (ev_allN (bs := (List.range xs.length).map fun i => pairB (ds.getD i .none)) ?_) ?_
    · have c := el_lcT (K := K) (σ := start N_is_book [v, .ref a]) (H := H1) (tl := tVar 1) (tt := tYes) (te := tCall (spPair K) [] E0 (tCons (tVar 2) tNil)) (j := 2) (vs := [2]) (fun _ => true) (fun i => .bl (pairB (ds.getD i .none))) (ev_var rfl) (ex_t e1 hs) (by omega) (fun x => rfl) (fun i x H2 e2 hi => et_yes) (fun i x H2 e2 hi _ => ?_)
      · rw [given_all] at c
        rw [List.map_map]
        exact c
      · obtain ⟨d, h1, h2⟩ := dxa_get ha hi
        have e : ds.getD i .none = d := by rw [List.getD_eq_getElem?_getD, h1]; rfl
        rw [e]
        have := nodes_memB (List.mem_of_getElem? h1)
        exact ev_call (ea_cons (ev_var rfl) ea_nil) fun H3 e3 Q' q' E' => ⟨x, d, rfl, dx_mono ((e1.trans e2).trans e3) h2, by omega, q'⟩
    · congr 1
      rw [hl, List.all_map]
      rw [Bool.eq_iff_iff, List.all_eq_true, List.all_eq_true]
      constructor
      · intro h x hx
        obtain ⟨i, hi, e⟩ := List.getElem_of_mem hx
        have := h i (List.mem_range.mpr hi)
        have e2 : ds.getD i .none = x := by rw [List.getD_eq_getElem?_getD, List.getElem?_eq_getElem hi, e]; rfl
        simp only [Function.comp, id] at this; rw [e2] at this; exact this
      · intro h i hi
        have hi2 := List.mem_range.mp hi
        have e2 : ds.getD i .none = ds[i] := by rw [List.getD_eq_getElem?_getD, List.getElem?_eq_getElem hi2]; rfl
        simp only [Function.comp, id, e2]
        exact h _ (List.getElem_mem hi2)
  refine q_when (et_not (et_B fits)) (fun hb2 H2 e2 => ?_) (fun hb2 H2 e2 => ?_)
  · refine s_ret ev_c fun H3 e3 => ?_
    have e : bookB ys0 (.tuple ds) = false := by
      simp only [bookB]
      rw [Bool.not_eq_true'] at hb2
      rw [hb2]
      rfl
    have q2 := q ys0 H3 hy0.1 hy0.2 ((e1.trans e2).trans e3)
    rw [e] at q2
    exact q2
  have all : ds.all pairB = true := by
    cases h : ds.all pairB with
    | true => rfl
    | false => rw [h] at hb2; cases hb2
  have e12 := e1.trans e2
  have pair : ∀ {i : Nat} {x : V}, xs[i]? = some x → ∃ (c : Addr) (z : Str) (y : V) (p : PyData), x = .ref c ∧ ds[i]? = some (.tuple [.str z, p]) ∧ SqT K H c [.str z, y] := by
    intro i x hx
    obtain ⟨d, h1, h2⟩ := dxa_get ha hx
    have hp := List.all_eq_true.mp all d (List.mem_of_getElem? h1)
    unfold pairB at hp
    split at hp
    · rename_i z p
      cases h2 with
      | tup k1 k2 =>
        cases k2 with
        | cons k3 t =>
          cases k3
          cases t with
          | cons k4 t =>
            cases t
            exact ⟨_, z, _, p, rfl, h1, k1⟩
    · cases hp
  simp only [okD] at hok
  have nasc : ∀ x ∈ ds.map pairName, asc x := by
    intro x hx
    obtain ⟨d, hd, rfl⟩ := List.mem_map.mp hx
    have hp := List.all_eq_true.mp all d hd
    have ok := oks_memB hok d hd
    unfold pairB at hp
    split at hp
    · simp only [okD, okDs] at ok
      exact ok.1
    · cases hp
  refine s_retP ?_
  refine ⟨_, rfl, a, rfl, ⟨xs, ex_t e12 hs⟩, fun D hD => ?_⟩
  refine lc_tup (K := K) (a := a) (xs := xs) (fun i H' => Ex H2 H' ∧ H' D = some (.lst (((ds.take i).map pairName).map V.str))) ⟨Ex.new hD, by rw [upd_same]; simp⟩ (fun i H' _ hP => ex_t (e12.trans hP.1) hs) ?_ ?_
  · intro i x H3 hx hP
    obtain ⟨e3, hacc⟩ := hP
    obtain ⟨c, z, y, p, rfl, hdi, hc⟩ := pair hx
    refine ⟨c, _, rfl, ex_t (e12.trans e3) hc, rfl, _, _, rfl, _, _, rfl, rfl, rfl, tYesQ ?_⟩
    have hi := (List.getElem?_eq_some_iff.mp hx).1
    refine ⟨_, rfl, _, hacc, sz_lt ?_, Ex.mut e3 hD, ?_⟩
    · rw [List.length_map, List.length_map, List.length_take]
      omega
    · rw [upd_same, List.take_succ, hdi]
      simp [pairName]
  · intro H3 hP
    obtain ⟨e3, hacc⟩ := hP
    rw [hl, List.take_length] at hacc
    have e13 := e12.trans e3
    refine ⟨_, rfl, v, n, b, ms, rfl, trv_tk (TK.ex e13) _ _ tv, tdp, by omega, fun hp H4 e4 hhp => ?_⟩
    have hl2 : (handsOf (.grp n b ms)).length < 64 := by
      have := names_len (.grp n b ms)
      rw [List.length_append] at this
      omega
    refine ⟨hp, handsOf (.grp n b ms), rfl, st_of hhp, hl2, fun ys sp hperm hsrt hsp => ?_⟩
    have e5 := e4.trans (Ex.new (o := .lst (ys.map V.str)) hsp)
    have yasc : ∀ x ∈ ys, asc x := fun x hx => name_asc (tnm x (hands_in _ x (hperm.mem_iff.mp hx)))
    refine ⟨.list ((ds.map pairName).map PyData.str), .list (ys.map PyData.str), .lst (sq_of (e5 _ _ hacc)) (dpa_strs _), .lst (sq_of upd_same) (dpa_strs _), shapedL nasc, shapedL yasc, ?_⟩
    have e6 : PyData.eqv (.list ((ds.map pairName).map PyData.str)) (.list (ys.map PyData.str)) = bookB ys (.tuple ds) := by
      simp only [PyData.eqv, bookB, eqv_strs, all, Bool.true_and]
    rw [e6]
    exact q ys _ hperm hsrt (e13.trans e5)
  | _ => cases hb
end

/-! ### the program's groups and their bounds -/
def boundsV (t : Tr) : List V := ((t.rows []).filter fun r => r.2.1.isSome).map fun r => obV r.2.1
theorem bounds_len (t : Tr) : (boundsV t).length = (groupsOf t).length := by
  rw [groups_rows, boundsV, List.length_map, List.length_map]
def spBnds (K : PySem.W.Frag) : Sp := fun vs H Q _ => ∃ (v : V) (n : Str) (b : Int) (ms : List Tr), vs = [v] ∧ TrV H v (.grp n b ms) ∧ (Tr.grp n b ms).deep ≤ 12 ∧ (Tr.grp n b ms).size ≤ 1000 ∧
  ∀ a H', Ex H H' → H' a = some (.tup (boundsV (.grp n b ms))) → Q (.ref a) H'
section
variable {P : Program} {w : World} {K : PySem.W.Frag} {mg : Str → Option Value} {base : Heap}
theorem ok_groups_of (T : Tp w K mg) : FnOk P w K mg base CX0 14 T.f_groups_of T.d_groups_of ["plan"] (spNames K groupsOf) := by
  refine T.F_groups_of.ok sc_groups_of (fun vs H Q E h => ?_) (fun cdv A outer s H vs Q E hr h => ?_)
  · obtain ⟨v, n, b, ms, rfl, _⟩ := h
    rfl
  obtain ⟨v, n, b, ms, rfl, hv, hdp, hsz, q⟩ := h
  refine ⟨_, (pss_one (ps_ret (pe_callTy call_tuple_of rfl T.z_tuple (by decide +kernel) (pa_cons (pe_lc (own := [("name", 1), ("bound", 2), ("path", 3)]) (g := gTup K 3 (gCons (gName 1) (gCons (gName 2) (gCons (gName 3) gNil)))) rfl sc_groups_of.nd (pi_list (pe_call (ok_all_in T) (hr.mono (by decide)) rfl T.m_all_in T.F_all_in.kp (b_all_in T) .nil pass0 (pa_cons (pv 0) pa_nil (star1 rfl)) (by decide) (star1 rfl) (starAll rfl))) (blkOk_by (N := N_groups_of) (sc := defScope s_groups_of) (by decide +kernel)) (fun _ _ _ _ _ => (pg_tup rfl (pgs_cons (pg_name (i := 1) sc_groups_of.nd rfl (Or.inl rfl)) (pgs_cons (pg_name (i := 2) sc_groups_of.nd rfl (Or.inl rfl)) (pgs_cons (pg_name (i := 3) sc_groups_of.nd rfl (Or.inl rfl)) pgs_nil))))) (fun _ _ _ _ _ => (pts_one (pt_cmp (pc_notN (pv 2))))) (fun _ _ _ _ _ => (pv 1))) pa_nil (star1 rfl)) (by decide) (by decide) (star1 rfl) (starAll rfl)))), ?_⟩
  refine s_retP ?_
  refine ⟨_, rfl, v, n, b, ms, rfl, hv, hdp, hsz, fun r xs H1 e1 hr1 h1 rows => ⟨r, rfl, ⟨xs, sq_of h1⟩, fun D hD => ?_⟩⟩
  generalize hrs : (Tr.grp n b ms).rows [] = rs at rows
  have hlen : rs.length ≤ 1000 := by rw [← hrs, rows_len]; exact hsz
  have hxl := rows.len
  refine lc_list (K := K) (a := r) (xs := xs) (fun i H' => Ex H1 H' ∧ H' D = some (.lst (((rs.take i).filter fun r => r.2.1.isSome).map fun r => V.str r.1))) ⟨Ex.new hD, upd_same⟩ (fun i H' _ hP => sq_of (hP.1 _ _ h1)) ?_ ?_
  · intro i x H' hx hP
    obtain ⟨e2, hacc⟩ := hP
    obtain ⟨rw', hrw, a, pa, rfl, ha, hpa⟩ := rows.get hx
    obtain ⟨nm, g, p⟩ := rw'
    refine ⟨a, _, rfl, st_of (e2 _ _ ha), rfl, _, _, rfl, _, _, rfl, _, _, rfl, rfl, rfl, _, rfl, _, rfl, ?_⟩
    have hl2 : (((rs.take i).filter fun r => r.2.1.isSome).map fun r => V.str r.1).length ≤ 1000 := by
      rw [List.length_map]
      exact Nat.le_trans (List.length_filter_le _ _) (by rw [List.length_take]; omega)
    cases g with
    | none =>
      refine iteF ?_
      refine ⟨e2, ?_⟩
      rw [hacc, filter_take hrw]
      simp
    | some bd =>
      refine iteT ?_
      refine ⟨_, rfl, _, hacc, sz_lt (by omega), Ex.mut e2 hD, ?_⟩
      rw [upd_same, filter_take hrw]
      simp
  · intro H' hP
    obtain ⟨e2, hacc⟩ := hP
    rw [hxl, List.take_length] at hacc
    refine ⟨D, _, rfl, Or.inl ⟨sq_of hacc, fun t ht => ?_⟩⟩
    refine q t _ ((e1.trans e2).trans (Ex.new ht)) ?_
    rw [upd_same]
    rw [groups_rows, hrs, List.map_map]
    rfl
theorem ok_bounds_of (T : Tp w K mg) : FnOk P w K mg base CX0 14 T.f_bounds_of T.d_bounds_of ["plan"] (spBnds K) := by
  refine T.F_bounds_of.ok sc_bounds_of (fun vs H Q E h => ?_) (fun cdv A outer s H vs Q E hr h => ?_)
  · obtain ⟨v, n, b, ms, rfl, _⟩ := h
    rfl
  obtain ⟨v, n, b, ms, rfl, hv, hdp, hsz, q⟩ := h
  refine ⟨_, (pss_one (ps_ret (pe_callTy call_tuple_of rfl T.z_tuple (by decide +kernel) (pa_cons (pe_lc (own := [("name", 1), ("bound", 2), ("path", 3)]) (g := gTup K 3 (gCons (gName 1) (gCons (gName 2) (gCons (gName 3) gNil)))) rfl sc_bounds_of.nd (pi_list (pe_call (ok_all_in T) (hr.mono (by decide)) rfl T.m_all_in T.F_all_in.kp (b_all_in T) .nil pass0 (pa_cons (pv 0) pa_nil (star1 rfl)) (by decide) (star1 rfl) (starAll rfl))) (blkOk_by (N := N_bounds_of) (sc := defScope s_bounds_of) (by decide +kernel)) (fun _ _ _ _ _ => (pg_tup rfl (pgs_cons (pg_name (i := 1) sc_bounds_of.nd rfl (Or.inl rfl)) (pgs_cons (pg_name (i := 2) sc_bounds_of.nd rfl (Or.inl rfl)) (pgs_cons (pg_name (i := 3) sc_bounds_of.nd rfl (Or.inl rfl)) pgs_nil))))) (fun _ _ _ _ _ => (pts_one (pt_cmp (pc_notN (pv 2))))) (fun _ _ _ _ _ => (pv 2))) pa_nil (star1 rfl)) (by decide) (by decide) (star1 rfl) (starAll rfl)))), ?_⟩
  refine s_retP ?_
  refine ⟨_, rfl, v, n, b, ms, rfl, hv, hdp, hsz, fun r xs H1 e1 hr1 h1 rows => ⟨r, rfl, ⟨xs, sq_of h1⟩, fun D hD => ?_⟩⟩
  generalize hrs : (Tr.grp n b ms).rows [] = rs at rows
  have hlen : rs.length ≤ 1000 := by rw [← hrs, rows_len]; exact hsz
  have hxl := rows.len
  refine lc_list (K := K) (a := r) (xs := xs) (fun i H' => Ex H1 H' ∧ H' D = some (.lst (((rs.take i).filter fun r => r.2.1.isSome).map fun r => obV r.2.1))) ⟨Ex.new hD, upd_same⟩ (fun i H' _ hP => sq_of (hP.1 _ _ h1)) ?_ ?_
  · intro i x H' hx hP
    obtain ⟨e2, hacc⟩ := hP
    obtain ⟨rw', hrw, a, pa, rfl, ha, hpa⟩ := rows.get hx
    obtain ⟨nm, g, p⟩ := rw'
    refine ⟨a, _, rfl, st_of (e2 _ _ ha), rfl, _, _, rfl, _, _, rfl, _, _, rfl, rfl, rfl, _, rfl, _, rfl, ?_⟩
    have hl2 : (((rs.take i).filter fun r => r.2.1.isSome).map fun r => obV r.2.1).length ≤ 1000 := by
      rw [List.length_map]
      exact Nat.le_trans (List.length_filter_le _ _) (by rw [List.length_take]; omega)
    cases g with
    | none =>
      refine iteF ?_
      refine ⟨e2, ?_⟩
      rw [hacc, filter_take hrw]
      simp
    | some bd =>
      refine iteT ?_
      refine ⟨_, rfl, _, hacc, sz_lt (by omega), Ex.mut e2 hD, ?_⟩
      rw [upd_same, filter_take hrw]
      simp
  · intro H' hP
    obtain ⟨e2, hacc⟩ := hP
    rw [hxl, List.take_length] at hacc
    refine ⟨D, _, rfl, Or.inl ⟨sq_of hacc, fun t ht => ?_⟩⟩
    refine q t _ ((e1.trans e2).trans (Ex.new ht)) ?_
    rw [upd_same, boundsV, hrs]
end

/-! ### the box, and what it draws -/
def spBox (K : PySem.W.Frag) : Sp := fun vs H Q _ => ∃ (a : Addr) (ns : List Int) (k : Nat), vs = [.ref a, .int k] ∧ SqL K H a (ns.map V.int) ∧ ns.length ≤ 63 ∧ k ≤ 63 ∧ ∀ h H', Ex H H' → H h = none → Bx H' h 0 → Q (.ref h) H'
def spTake : Sp := fun vs H Q _ => ∃ (h : Addr) (m : Int) (C : Nat), vs = [.ref h, .int m] ∧ Bx H h C ∧ C ≤ 1000000 ∧ 1 ≤ m ∧ m ≤ 1000 ∧ ∀ (r : Int) H', 0 ≤ r → r < m → Bx H' h (C + 1) → Kp h h H H' → Q (.int r) H'
theorem take_at {h : Addr} {m : Int} {C i : Nat} {σ : L2.St} {H : Hp} {Q : VK} (hσ : σ[i]? = some (some (.ref h))) (A : Bx H h C) (hC : C ≤ 1000000) (m1 : 1 ≤ m) (m2 : m ≤ 1000) (q : ∀ (r : Int) H', 0 ≤ r → r < m → Bx H' h (C + 1) → Kp h h H H' → Q (.int r) H') : tCall spTake [] E0 (tCons (tVar i) (tCons (tC (.int m)) tNil)) σ H Q := ⟨_, hσ, h, m, C, rfl, A, hC, m1, m2, q⟩
theorem q_par3 {i j l : Nat} {ta : TA} {tz : TS} {D : Ends} {σ : L2.St} {H : Hp} (h : ta σ H fun vs H1 => ∃ u v w, vs = [u, v, w] ∧ tz D (((σ.set i (some u)).set j (some v)).set l (some w)) H1) : tSeq (tPar3 i j l ta) tz D σ H := h
theorem s_ifP {t : TT} {tu tw : TS} {D : Ends} {σ : L2.St} {H : Hp} (h : t σ H fun c H1 => if c = true then tu D σ H1 else tw D σ H1) : tIfS t tu tw D σ H := h
theorem iteT' {c : Bool} {A B : Prop} (h : c = true) (a : A) : if c = true then A else B := by rw [if_pos h]; exact a
theorem iteF' {c : Bool} {A B : Prop} (h : c = false) (b : B) : if c = true then A else B := by rw [if_neg (by rw [h]; exact Bool.false_ne_true)]; exact b
section
variable {P : Program} {w : World} {K : PySem.W.Frag} {mg : Str → Option Value} {base : Heap}
theorem ok__law_box (T : Tp w K mg) : FnOk P w K mg base CX0 1 T.f__law_box T.d__law_box ["_law_script", "_law_k"] (spBox K) := by
  refine T.F__law_box.ok sc__law_box (fun vs H Q E h => ?_) (fun cdv A outer s H vs Q E hr h => ?_)
  · obtain ⟨a, ns, k, rfl, _⟩ := h
    rfl
  obtain ⟨a, ns, k, rfl, hS, h63, hk, q⟩ := h
  refine ⟨_, (pss_cons (ps_set (i := 2) sc__law_box.nd rfl (Or.inl rfl) (pe_ifExp (pt_cmpR op_lt (pv 1) (pe_callB (lenK (K := K) rfl) rfl T.z_len PySem.boot_len (pa_cons (pv 0) pa_nil (star1 rfl)) (by decide) (by decide) (star1 rfl) (starAll rfl)) (nomark _)) (pe_ix ix_list (pv 0) (pv 1) (fun _ _ => rfl)) pe_int))
  (pss_cons (ps_set (i := 3) sc__law_box.nd rfl (Or.inl rfl) (pe_op op_mod (pe_op op_mul (pe_op op_add (pe_op op_add (pe_op op_mod (pv 2) pe_int) (pe_op op_mul (pe_op op_mul pe_int (pv 1)) (pv 1))) pe_int) pe_int) pe_int))
  (pss_one (ps_ret (pe_lst (pa_cons (pe_ifExp (pt_cmpR op_ge (pe_callB call_abs rfl T.z_abs (by decide +kernel) (pa_cons (pv 2) pa_nil (star1 rfl)) (by decide) (by decide) (star1 rfl) (starAll rfl)) (pe_op op_pow pe_int pe_int) (nomark _)) (pe_callB call_abs rfl T.z_abs (by decide +kernel) (pa_cons (pv 2) pa_nil (star1 rfl)) (by decide) (by decide) (star1 rfl) (starAll rfl)) pe_int) (pa_cons (pv 3) (pa_cons pe_int pa_nil (star1 rfl)) (star1 rfl)) (star1 rfl))))))), ?_⟩
  refine q_asg (v := .int (ns.getD k 0)) (ev_if (et_test (ev_I0 (ev_var rfl) (ev_len (ev_var rfl) hS))) (fun hb => ?_) (fun hb => ?_)) fun H1 e1 => ?_
  · have hb2 : k < ns.length := by simpa using hb
    refine ev_op (ev_var rfl) (ev_var rfl) (rv_ixL (v := .int (ns.getD k 0)) hS ?_)
    unfold atI ixN
    rw [if_pos (by omega), if_pos (by rw [List.length_map]; omega)]
    simp [List.getD_eq_getElem?_getD, hb2]
  · have hb2 : ¬ k < ns.length := by simpa using hb
    have e : ns.getD k 0 = 0 := by
      rw [List.getD_eq_getElem?_getD, List.getElem?_eq_none (by omega)]
      rfl
    rw [e]
    exact ev_c
  generalize ns.getD k 0 = c
  have ab : ∀ {H' : Hp} {σ : L2.St}, σ[2]? = some (some (.int c)) → Ev (tCB (fun xs H Q => ∃ i, xs = [.int i] ∧ Q (.int (if i < 0 then -i else i)) H) (tCons (tVar 2) tNil)) σ H' (.int (if c < 0 then -c else c)) := fun h => ev_abs (ev_var h)
  have abs0 : 0 ≤ (if c < 0 then -c else c) := by split <;> omega
  generalize (if c < 0 then -c else c) = b at ab abs0
  have m0 : 0 ≤ c % 2305843009213693951 := Int.emod_nonneg _ (by decide)
  have m1 : c % 2305843009213693951 < 2305843009213693951 := Int.emod_lt_of_pos _ (by decide)
  have pw : ∀ {H' : Hp} {σ : L2.St}, Ev (tOp (rI CPow fun i j => .int (i ^ j.toNat)) (tC (.int 10)) (tC (.int 18))) σ H' (.int (10 ^ 18)) := fun H3 e Q q => ⟨10, 18, rfl, rfl, ⟨by decide, by decide, by decide⟩, q H3 (Ex.refl H3)⟩
  refine q_asg (v := .int ((c % 2305843009213693951 + 7919 * k * k + 3) * 48271 % 2305843009213693921)) (ev_I (by decide) (ev_I (C := CMul) (g := fun i j => .int (i * j)) (Or.inr (by decide)) (ev_I0 (ev_I0 (ev_I (by decide) (ev_var rfl) ev_c) (ev_I (C := CMul) (g := fun i j => .int (i * j)) (Or.inr ⟨by omega, by omega⟩) (ev_I (C := CMul) (g := fun i j => .int (i * j)) (Or.inl (by decide)) ev_c (ev_var rfl)) (ev_var rfl))) ev_c) ev_c) ev_c) fun H2 e2 => ?_
  have x0 : 0 ≤ (c % 2305843009213693951 + 7919 * k * k + 3) * 48271 % 2305843009213693921 := Int.emod_nonneg _ (by decide)
  have x1 : (c % 2305843009213693951 + 7919 * k * k + 3) * 48271 % 2305843009213693921 < 2305843009213693921 := Int.emod_lt_of_pos _ (by decide)
  generalize (c % 2305843009213693951 + 7919 * k * k + 3) * 48271 % 2305843009213693921 = mx at x0 x1
  refine s_retL (xs := [.int (if decide (b ≥ 10 ^ 18) = true then b else 0), .int mx, .int 0]) ?_ fun p H3 hp e3 h3 => ?_
  · refine fun H4 e4 Q' q' => (ea_cons (ev_if (b := decide (b ≥ 10 ^ 18)) (et_test (ev_is (ev_I0 (ab rfl) pw) rfl)) (fun hb => ?_) (fun hb => ?_)) (ea_cons (ev_var rfl) (ea_cons ev_c ea_nil))) H4 (Ex.refl H4) _ fun H5 e5 => ⟨(by show 3 ≤ sizeLine; decide), fun p hp => q' p _ (fresh_back e5 hp) (e5.trans (Ex.new hp)) upd_same⟩
    · rw [if_pos hb]
      exact ab rfl
    · rw [if_neg (by rw [hb]; exact Bool.false_ne_true)]
      exact ev_c
  · refine q p H3 ((e1.trans e2).trans e3) (fresh_back (e1.trans e2) hp) ⟨_, _, _, h3, ?_, x0, by omega, by decide, by decide⟩
    split <;> omega
theorem ok__law_take (T : Tp w K mg) : FnOk P w K mg base CX0 1 T.f__law_take T.d__law_take ["_law_box_here", "_law_many"] spTake := by
  refine T.F__law_take.ok sc__law_take (fun vs H Q E h => ?_) (fun cdv A outer s H vs Q E hr h => ?_)
  · obtain ⟨h, m, C, rfl, _⟩ := h
    rfl
  obtain ⟨h, m, C, rfl, ⟨n, m', c, A0⟩, hC, m1, m2, q⟩ := h
  refine ⟨_, (pss_cons (ps_if (pt_cmpR op_gt (pe_ix ix_list (pv 0) pe_int (fun _ _ => rfl)) pe_int (nomark _)) (pss_cons (ps_set (i := 3) sc__law_take.nd rfl (Or.inl rfl) (pe_op op_mod (pe_ix ix_list (pv 0) pe_int (fun _ _ => rfl)) (pv 1)))
  (pss_cons (ps_asg (pe_op op_fdiv (pe_ix ix_list (pv 0) pe_int (fun _ _ => rfl)) (pv 1)) (pg_sub (pv 0) pe_int set_list))
  (pss_one (ps_ret (pv 3))))) pss_nil)
  (pss_cons (ps_asg (pe_op op_add (pe_ix ix_list (pv 0) pe_int (fun _ _ => rfl)) pe_int) (pg_sub (pv 0) pe_int set_list))
  (pss_cons (ps_set (i := 2) sc__law_take.nd rfl (Or.inl rfl) (pe_op op_mod (pe_op op_mul (pe_op op_add (pe_op op_add (pe_ix ix_list (pv 0) pe_int (fun _ _ => rfl)) (pe_op op_mul (pe_op op_mul pe_int (pe_ix ix_list (pv 0) pe_int (fun _ _ => rfl))) (pe_ix ix_list (pv 0) pe_int (fun _ _ => rfl)))) pe_int) pe_int) pe_int))
  (pss_cons (ps_set (i := 2) sc__law_take.nd rfl (Or.inl rfl) (pe_op op_mod (pe_op op_mul (pv 2) (pe_op op_add (pe_op op_mod (pv 2) pe_int) (pe_op op_mul pe_int (pe_ix ix_list (pv 0) pe_int (fun _ _ => rfl))))) pe_int))
  (pss_one (ps_ret (pe_op op_mod (pe_op op_add (pe_op op_fdiv (pv 2) pe_int) (pe_op op_fdiv (pv 2) pe_int)) (pv 1)))))))), ?_⟩
  have at0 : ∀ (σ' : L2.St) {H' : Hp} {n m c : Int} {C : Nat}, σ'[0]? = some (some (.ref h)) → BxAt H' h n m c C → Ev (tOp (rIxL K) (tVar 0) (tC (.int 0))) σ' H' (.int n) := fun σ' H' n m c C e A => ev_op (ev_var e) ev_c (rv_ixL (sq_of A.hh) rfl)
  have at1 : ∀ (σ' : L2.St) {H' : Hp} {n m c : Int} {C : Nat}, σ'[0]? = some (some (.ref h)) → BxAt H' h n m c C → Ev (tOp (rIxL K) (tVar 0) (tC (.int 1))) σ' H' (.int m) := fun σ' H' n m c C e A => ev_op (ev_var e) ev_c (rv_ixL (sq_of A.hh) rfl)
  have at2 : ∀ (σ' : L2.St) {H' : Hp} {n m c : Int} {C : Nat}, σ'[0]? = some (some (.ref h)) → BxAt H' h n m c C → Ev (tOp (rIxL K) (tVar 0) (tC (.int 2))) σ' H' (.int c) := fun σ' H' n m c C e A => ev_op (ev_var e) ev_c (rv_ixL (sq_of A.hh) rfl)
  refine q_when (et_test (ev_I0 (at0 _ rfl A0) ev_c)) (fun hb H1 e1 => ?_) (fun hb H1 e1 => ?_)
  · have A1 := A0.ex e1
    refine q_asg (v := .int (n % m)) (ev_I (by show (0 : Int) < m; omega) (at0 _ rfl A1) (ev_var rfl)) fun H2 e2 => ?_
    have A2 := A1.ex e2
    refine q_setL (j := 0) (v := .int (n / m)) A2.hh (ev_I (C := CDiv) ⟨by omega, by omega⟩ (at0 _ rfl A2) (ev_var rfl)) (ev_var rfl) ev_c (by simp) fun H3 e3 => ?_
    have A3 := A2.ex e3
    refine s_ret (v := .int (n % m)) (ev_var rfl) fun H4 e4 => ?_
    have B : BxAt (upd H3 h (.lst ([V.int n, .int m', .int c].set 0 (.int (n / m))))) h (n / m) m' c (C + 1) := ⟨upd_same, Int.ediv_nonneg A3.n0 (by omega), A3.m0, A3.m1, A3.c0, by have := A3.c1; omega⟩
    exact q _ H4 (Int.emod_nonneg _ (by omega)) (Int.emod_lt_of_pos _ (by omega)) ⟨_, _, _, B.ex e4⟩ ((Kp.put (Kp.ex ((e1.trans e2).trans e3)) (Or.inl rfl)).trans (Kp.ex e4))
  · have A1 := A0.ex e1
    refine q_setL (j := 2) (v := .int (c + 1)) A1.hh (ev_I0 (at2 _ rfl A1) ev_c) (ev_var rfl) ev_c (by simp) fun H2 e2 => ?_
    have A2 := A1.ex e2
    have k2 : Kp h h H (upd H2 h (.lst ([V.int n, .int m', .int c].set 2 (.int (c + 1))))) := Kp.put (Kp.ex (e1.trans e2)) (Or.inl rfl)
    have B : BxAt (upd H2 h (.lst ([V.int n, .int m', .int c].set 2 (.int (c + 1))))) h n m' (c + 1) (C + 1) := ⟨upd_same, A2.n0, A2.m0, A2.m1, by have := A2.c0; omega, by have := A2.c1; omega⟩
    generalize upd H2 h (.lst ([V.int n, .int m', .int c].set 2 (.int (c + 1)))) = H3 at B k2
    have c1 := B.c1
    have c0 := B.c0
    refine q_asg (v := .int ((m' + 65537 * (c + 1) * (c + 1) + 11) * 48271 % 2305843009213693921)) (ev_I (by decide) (ev_I (C := CMul) (g := fun i j => .int (i * j)) (Or.inr (by decide)) (ev_I0 (ev_I0 (at1 _ rfl B) (ev_I (C := CMul) (g := fun i j => .int (i * j)) (Or.inr ⟨by omega, by omega⟩) (ev_I (C := CMul) (g := fun i j => .int (i * j)) (Or.inl (by decide)) ev_c (at2 _ rfl B)) (at2 _ rfl B))) ev_c) ev_c) ev_c) fun H4 e4 => ?_
    have B4 := B.ex e4
    have x0 : 0 ≤ (m' + 65537 * (c + 1) * (c + 1) + 11) * 48271 % 2305843009213693921 := Int.emod_nonneg _ (by decide)
    have x1 : (m' + 65537 * (c + 1) * (c + 1) + 11) * 48271 % 2305843009213693921 < 2305843009213693921 := Int.emod_lt_of_pos _ (by decide)
    generalize (m' + 65537 * (c + 1) * (c + 1) + 11) * 48271 % 2305843009213693921 = mx at x0 x1
    refine q_asg (v := .int (mx * (mx % 1000003 + 99991 * (c + 1)) % 2305843009213693907)) (ev_I (by decide) (ev_I (C := CMul) (g := fun i j => .int (i * j)) (Or.inl ⟨by omega, by omega⟩) (ev_var rfl) (ev_I0 (ev_I (by decide) (ev_var rfl) ev_c) (ev_I (C := CMul) (g := fun i j => .int (i * j)) (Or.inl (by decide)) ev_c (at2 _ rfl B4)))) ev_c) fun H5 e5 => ?_
    have B5 := B4.ex e5
    refine s_ret (ev_I (by show (0 : Int) < m; omega) (ev_I0 (ev_I (C := CDiv) (by constructor <;> decide) (ev_var rfl) ev_c) (ev_I (C := CDiv) (by constructor <;> decide) (ev_var rfl) ev_c)) (ev_var rfl)) fun H6 e6 => ?_
    exact q _ H6 (Int.emod_nonneg _ (by omega)) (Int.emod_lt_of_pos _ (by omega)) ⟨_, _, _, B5.ex e6⟩ (k2.trans (Kp.ex ((e4.trans e5).trans e6)))
end

/-! ### a plan to three levels -/
def dr : Nat → Nat
  | 0 => 3
  | d + 1 => 3 + 3 * (1 + dr d)
def spGr (d : Nat) : Sp := fun vs H Q _ => ∃ (h pl : Addr) (C : Nat) (ns : List Str), vs = [.ref h, .ref pl, .int (d : Int)] ∧ d ≤ 2 ∧ Bx H h C ∧ C + 1000 * d ≤ 100000 ∧ pl ≠ h ∧ H pl = some (.lst (ns.map V.str)) ∧ 9 ≤ ns.length ∧ ns.length ≤ 100 ∧
  ∀ v n b ms rest H', Bx H' h (C + dr d) → Kp h pl H H' → H' pl = some (.lst (rest.map V.str)) → TrV H' v (.grp n b ms) → ns = (Tr.grp n b ms).nms ++ rest → 5 ≤ rest.length + 2 * d → (Tr.grp n b ms).ok → (Tr.grp n b ms).deep ≤ d + 1 → b ≤ 4 → Q v H'
theorem nmss_one (ts : List Tr) (t : Tr) : nmss (ts ++ [t]) = nmss ts ++ t.nms := by
  induction ts with
  | nil => simp [nmss]
  | cons u ts ih => simp only [List.cons_append, nmss, ih, List.append_assoc]
theorem deeps_one (ts : List Tr) (t : Tr) : deeps (ts ++ [t]) = max (deeps ts) t.deep := by
  induction ts with
  | nil => simp [deeps]
  | cons u ts ih => simp only [List.cons_append, deeps, ih]; omega
section
variable {P : Program} {w : World} {K : PySem.W.Frag} {mg : Str → Option Value} {base : Heap}
theorem gr_step (T : Tp w K mg) {d : Nat} {spR : Sp} (ih : FnOk P w K mg base CX0 (d + 1) T.f__law_group T.d__law_group ["_law_box_here", "_law_pool", "_law_deep"] spR) (hR : ∀ k, d = k + 1 → spR = spGr k) : FnOk P w K mg base CX0 (d + 2) T.f__law_group T.d__law_group ["_law_box_here", "_law_pool", "_law_deep"] (spGr d) := by
  refine T.F__law_group.ok sc__law_group (fun vs H Q E h => ?_) (fun cdv A outer s H vs Q E hr h => ?_)
  · obtain ⟨h, pl, C, ns, rfl, _⟩ := h
    rfl
  obtain ⟨h, pl, C, ns, rfl, hd2, A0, hC, plh, hpl, h9, h100, q⟩ := h
  refine ⟨_, (pss_cons (ps_par3 rfl sc__law_group.nd (i := 3) (j := 4) (l := 5) rfl rfl rfl (by decide) (by decide) (by decide) rfl rfl rfl (pa_cons (pe_bm PySem.F.plainAttrs_list PySem.F.slot_list_pop PySem.F.type_list_pop mt_popAt (pv 1) (pa_cons pe_int pa_nil (star1 rfl))) (pa_cons (pe_ix (ixLK (K := K) rfl) (pe_lst (pa_cons pe_int (pa_cons pe_int (pa_cons pe_int (pa_cons pe_int (pa_cons (pe_op op_add pe_int (pe_call (ok__law_take T) (hr.mono (by omega)) rfl T.m__law_take T.F__law_take.kp (b__law_take T) .nil pass0 (pa_cons (pv 0) (pa_cons pe_int pa_nil (star1 rfl)) (star1 rfl)) (by decide) (star1 rfl) (starAll rfl))) pa_nil (star1 rfl)) (star1 rfl)) (star1 rfl)) (star1 rfl)) (star1 rfl))) (pe_call (ok__law_take T) (hr.mono (by omega)) rfl T.m__law_take T.F__law_take.kp (b__law_take T) .nil pass0 (pa_cons (pv 0) (pa_cons pe_int pa_nil (star1 rfl)) (star1 rfl)) (by decide) (star1 rfl) (starAll rfl)) (fun _ _ => rfl)) (pa_cons (pe_lst pa_nil) pa_nil (star1 rfl)) (star1 rfl)) (star1 rfl)) (by rfl))
  (pss_cons (ps_for PassesOwn.never rfl (pi_range1 rfl T.z_range (pa_cons (pe_op op_add pe_int (pe_call (ok__law_take T) (hr.mono (by omega)) rfl T.m__law_take T.F__law_take.kp (b__law_take T) .nil pass0 (pa_cons (pv 0) (pa_cons pe_int pa_nil (star1 rfl)) (star1 rfl)) (by decide) (star1 rfl) (starAll rfl))) pa_nil (star1 rfl))) (pg_name (i := 6) sc__law_group.nd rfl (Or.inl rfl)) (pss_one (ps_if (PW.pt (pw_and (pt_cmpR op_gt (pv 2) pe_int (nomark _)) (pw_and (pt_cmpR op_gt (pe_callB (lenK (K := K) rfl) rfl T.z_len PySem.boot_len (pa_cons (pv 1) pa_nil (star1 rfl)) (by decide) (by decide) (star1 rfl) (starAll rfl)) pe_int (nomark _)) (pw_and1 (pt_cmpR op_eq (pe_call (ok__law_take T) (hr.mono (by omega)) rfl T.m__law_take T.F__law_take.kp (b__law_take T) .nil pass0 (pa_cons (pv 0) (pa_cons pe_int pa_nil (star1 rfl)) (star1 rfl)) (by decide) (star1 rfl) (starAll rfl)) pe_int (nomark _)))))) (pss_one (ps_expr (pe_bm PySem.F.plainAttrs_list PySem.F.slot_list_append PySem.F.type_list_append mt_append (pv 5) (pa_cons (pe_call ih hr rfl T.m__law_group T.F__law_group.kp (b__law_group T) .nil pass0 (pa_cons (pv 0) (pa_cons (pv 1) (pa_cons (pe_op op_sub (pv 2) pe_int) pa_nil (star1 rfl)) (star1 rfl)) (star1 rfl)) (by decide) (star1 rfl) (starAll rfl)) pa_nil (star1 rfl))))) (pss_one (ps_expr (pe_bm PySem.F.plainAttrs_list PySem.F.slot_list_append PySem.F.type_list_append mt_append (pv 5) (pa_cons (pe_bm PySem.F.plainAttrs_list PySem.F.slot_list_pop PySem.F.type_list_pop mt_popAt (pv 1) (pa_cons pe_int pa_nil (star1 rfl))) pa_nil (star1 rfl))))))))
  (pss_one (ps_ret (pe_tup (pa_cons (pv 3) (pa_cons (pv 4) (pa_cons (pe_callTy call_tuple_of rfl T.z_tuple (by decide +kernel) (pa_cons (pv 5) pa_nil (star1 rfl)) (by decide) (by decide) (star1 rfl) (starAll rfl)) pa_nil (star1 rfl)) (star1 rfl)) (star1 rfl))))))), ?_⟩
  obtain ⟨n, ns, rfl⟩ : ∃ n ns', ns = n :: ns' := by
    cases ns with
    | nil => cases h9
    | cons n ns => exact ⟨n, ns, rfl⟩
  refine q_par3 ?_
  refine ⟨.ref pl, rfl, Or.inl ⟨rfl, _, sq_of hpl⟩, pl, (n :: ns).map V.str, 0, 0, .str n, rfl, rfl, hpl, by decide, by decide, by simp [seqIndex?], rfl, ?_⟩
  have A1 : Bx (upd H pl (.lst (((n :: ns).map V.str).eraseIdx 0))) h C := by
    obtain ⟨x1, x2, x3, B⟩ := A0
    exact ⟨x1, x2, x3, by rw [upd_ne (Ne.symm plh)]; exact B.hh, B.n0, B.m0, B.m1, B.c0, B.c1⟩
  have k1 : Kp h pl H (upd H pl (.lst (((n :: ns).map V.str).eraseIdx 0))) := Kp.put (Kp.refl _ _ H) (Or.inr rfl)
  have hpl1 : upd H pl (.lst (((n :: ns).map V.str).eraseIdx 0)) pl = some (.lst (ns.map V.str)) := by rw [upd_same]; rfl
  generalize upd H pl (.lst (((n :: ns).map V.str).eraseIdx 0)) = H1 at A1 k1 hpl1
  refine take_at rfl A1 (by omega) (by decide) (by decide) fun r1 H2 r10 r11 A2 k2 => ⟨1, r1, rfl, rfl, (by show 5 ≤ sizeLine; decide), fun p hp => ?_⟩
  refine take_at rfl (A2.new hp) (by omega) (by decide) (by decide) fun r2 H3 r20 r21 A3 k3 => ?_
  have hp3 : H3 p = some (.lst [.int 1, .int 1, .int 2, .int 3, .int (1 + r1)]) := k3 _ _ (A2.fresh hp) (A2.fresh hp) upd_same
  obtain ⟨b, hb, b1, b4⟩ : ∃ b : Int, atI [V.int 1, .int 1, .int 2, .int 3, .int (1 + r1)] r2 = some (.int b) ∧ 1 ≤ b ∧ b ≤ 4 := by
    have : r2 = 0 ∨ r2 = 1 ∨ r2 = 2 ∨ r2 = 3 ∨ r2 = 4 := by omega
    rcases this with rfl | rfl | rfl | rfl | rfl
    · exact ⟨1, rfl, by decide, by decide⟩
    · exact ⟨1, rfl, by decide, by decide⟩
    · exact ⟨2, rfl, by decide, by decide⟩
    · exact ⟨3, rfl, by decide, by decide⟩
    · exact ⟨1 + r1, rfl, by omega, by omega⟩
  refine ⟨p, _, r2, .int b, rfl, rfl, sq_of hp3, hb, (by show 0 ≤ sizeLine; decide), fun mb hmb => ⟨_, _, _, rfl, ?_⟩⟩
  have k03 : Kp h pl H H3 := ((k1.trans (kp_l k2)).trans (Kp.ex (Ex.new hp))).trans (kp_l k3)
  have hpl3 : H3 pl = some (.lst (ns.map V.str)) := k3 _ _ plh plh ((Ex.new hp) _ _ (k2 _ _ plh plh hpl1))
  have mbh := A3.fresh hmb
  have mbp : mb ≠ pl := fun z => by
    subst z
    rw [hpl3] at hmb
    cases hmb
  have mbH := fresh_kp k03 mbh mbp hmb
  have e4 := Ex.new (o := .lst []) hmb
  have h4 : upd H3 mb (.lst []) mb = some (.lst []) := upd_same
  have A4 := A3.ex e4
  have hpl4 := e4 _ _ hpl3
  have k04 := k03.trans (Kp.ex e4)
  generalize upd H3 mb (.lst []) = H4 at e4 h4 A4 hpl4 k04
  have mutK : ∀ {H' : Hp} {ys : List V}, Kp h pl H H' → Kp h pl H (upd H' mb (.lst ys)) := fun k a o u1 u2 ha => by
    have : a ≠ mb := fun z => by
      subst z
      rw [mbH] at ha
      cases ha
    rw [upd_ne this]
    exact k a o u1 u2 ha
  have mutA : ∀ {H' : Hp} {x : Addr} {ys : List V} {C : Nat}, x ≠ h → Bx H' h C → Bx (upd H' x (.lst ys)) h C := fun xh A => by
    obtain ⟨x1, x2, x3, B⟩ := A
    exact ⟨x1, x2, x3, by rw [upd_ne (Ne.symm xh)]; exact B.hh, B.n0, B.m0, B.m1, B.c0, B.c1⟩
  refine q_forU ?_
  refine take_at rfl A4 (by omega) (by decide) (by decide) fun r3 H5 r30 r31 A5 k5 => ⟨1, r3, rfl, rfl, 1 + r3, rfl, by omega, by omega, ?_⟩
  refine rng_turns (n := (1 + r3).toNat) (fun j σ' H' => ∃ ys ts rest c6, σ' = [some (.ref h), some (.ref pl), some (.int (d : Int)), some (.str n), some (.int b), some (.ref mb), c6] ∧ Bx H' h (C + 3 + j * (dr d / 3 - 1)) ∧ Kp h pl H H' ∧ H' pl = some (.lst (rest.map V.str)) ∧ H' mb = some (.lst ys) ∧ TrVs H' ys ts ∧ ns = nmss ts ++ rest ∧ 8 ≤ rest.length + 2 * d + j ∧ oks ts ∧ deeps ts ≤ d ∧ ts.length = j) ?_ ?_ ?_
  · exact ⟨[], [], ns, _, rfl, A5.up (by omega), k04.trans (kp_l k5), k5 _ _ plh plh hpl4, k5 _ _ mbh mbh h4, .nil, rfl, by simp at h9; omega, trivial, Nat.zero_le _, rfl⟩
  · intro j σ' H6 hj hP
    obtain ⟨ys, ts, rest, c6, rfl, A6, k6, hpl6, hmb6, tvs, hns, hlen, hoks, hdp, htl⟩ := hP
    have hj3 : j < 3 := by omega
    have ylen := trvs_len tvs
    have few : rest.length ≤ 100 := by
      have := congrArg List.length hns
      rw [List.length_append] at this
      simp at h100
      omega
    have wide : d = 0 ∨ ∃ k, d = k + 1 ∧ dr d / 3 - 1 = 1 + dr k := by
      cases d with
      | zero => exact .inl rfl
      | succ k =>
        refine .inr ⟨k, rfl, ?_⟩
        simp only [dr]
        omega
    have jm : ∀ m : Nat, (j + 1) * m = j * m + m := fun m => by rw [Nat.succ_mul]
    -- a name from the pool
    have pop : ∀ {H' : Hp} {D : Ends} {C' : Nat}, Bx H' h C' → C' ≤ C + 3 + (j + 1) * (dr d / 3 - 1) → Kp h h H6 H' → D.nx = (fun σ' H' => ∃ ys ts rest c6, σ' = [some (.ref h), some (.ref pl), some (.int (d : Int)), some (.str n), some (.int b), some (.ref mb), c6] ∧ Bx H' h (C + 3 + (j + 1) * (dr d / 3 - 1)) ∧ Kp h pl H H' ∧ H' pl = some (.lst (rest.map V.str)) ∧ H' mb = some (.lst ys) ∧ TrVs H' ys ts ∧ ns = nmss ts ++ rest ∧ 8 ≤ rest.length + 2 * d + (j + 1) ∧ oks ts ∧ deeps ts ≤ d ∧ ts.length = j + 1) → tDrop (tBM K "list" rAppend (tVar 5) (tCons (tBM K "list" rPopAt (tVar 1) (tCons (tC (.int 0)) tNil)) tNil)) D [some (.ref h), some (.ref pl), some (.int (d : Int)), some (.str n), some (.int b), some (.ref mb), some (.int (0 + (j : Int)))] H' := by
      intro H' D C' A' hC' k' hD
      have hpl' := k' _ _ plh plh hpl6
      have hmb' := k' _ _ mbh mbh hmb6
      obtain ⟨x, rest, rfl⟩ : ∃ x rest', rest = x :: rest' := by
        cases rest with
        | nil => simp at hlen; omega
        | cons x rest => exact ⟨x, rest, rfl⟩
      refine ⟨.ref mb, rfl, Or.inl ⟨rfl, ys, sq_of hmb'⟩, .ref pl, rfl, Or.inl ⟨rfl, _, sq_of hpl'⟩, pl, (x :: rest).map V.str, 0, 0, .str x, rfl, rfl, hpl', by decide, by decide, by simp [seqIndex?], rfl, ?_⟩
      have hm2 : upd H' pl (.lst (((x :: rest).map V.str).eraseIdx 0)) mb = some (.lst ys) := by rw [upd_ne mbp]; exact hmb'
      refine ⟨mb, ys, .str x, rfl, rfl, hm2, sz_lt (by omega), ?_⟩
      rw [hD]
      have tk1 : TK H' (upd H' pl (.lst (((x :: rest).map V.str).eraseIdx 0))) := TK.lst hpl'
      have tk2 : TK (upd H' pl (.lst (((x :: rest).map V.str).eraseIdx 0))) (upd (upd H' pl (.lst (((x :: rest).map V.str).eraseIdx 0))) mb (.lst (ys ++ [.str x]))) := TK.lst hm2
      refine ⟨ys ++ [.str x], ts ++ [.hand x], rest, _, rfl, mutA mbh (mutA plh (A'.up hC')), mutK (Kp.put (k6.trans (kp_l k')) (Or.inr rfl)), ?_, upd_same, trvs_tk (((tk_bx A6 k').trans tk1).trans tk2) _ _ (trvs_app tvs (.cons (.hand x) .nil)), ?_, ?_, oks_app (us := [.hand x]) hoks ⟨trivial, trivial⟩, ?_, by rw [List.length_append]; simp [htl]⟩
      · rw [upd_ne (Ne.symm mbp), upd_same]
        rfl
      · rw [nmss_one, hns, List.append_assoc]
        rfl
      · simp only [List.length_cons] at hlen
        omega
      · rw [deeps_one]
        simp only [Tr.deep]
        omega
    refine s_ifP ?_
    by_cases hd0 : 0 < d
    · obtain ⟨k, rfl, hdr⟩ : ∃ k, d = k + 1 ∧ dr d / 3 - 1 = 1 + dr k := by
        rcases wide with z | z
        · omega
        · exact z
      have eR := hR k rfl
      subst eR
      have k01 : k = 0 ∨ k = 1 := by omega
      have drk : 1 + dr k ≤ 60 := by
        rcases k01 with rfl | rfl
        · decide
        · decide
      have bigJ : j * (dr (k + 1) / 3 - 1) ≤ 3 * 60 := by
        rw [hdr]
        exact Nat.mul_le_mul (by omega) drk
      refine ⟨_, rfl, _, _, rfl, rfl, _, rfl, ?_⟩
      refine iteT' (decide_eq_true (by omega)) ?_
      have lenE : Ev (tOp (rI0 fun i j => .bl (decide (i > j))) (tCB (rLenS K) (tCons (tVar 1) tNil)) (tC (.int 8))) [some (.ref h), some (.ref pl), some (.int ((k + 1 : Nat) : Int)), some (.str n), some (.int b), some (.ref mb), some (.int (0 + (j : Int)))] H6 (.bl (decide (((rest.map V.str).length : Int) > 8))) := ev_I0 (g := fun i j => .bl (decide (i > j))) (ev_len (ev_var rfl) (sq_of hpl6)) ev_c
      refine lenE H6 (Ex.refl H6) _ fun H7 e7 => ⟨_, rfl, ?_⟩
      rw [List.length_map]
      by_cases hl8 : 8 < rest.length
      · refine iteT' (decide_eq_true (by omega)) ?_
        refine take_at rfl (A6.ex e7) (by omega) (by decide) (by decide) fun r4 H8 r40 r41 A8 k8 => ⟨rfl, _, rfl, ?_⟩
        refine ite2 (fun _ => ?_) (fun _ => ?_)
        · -- a group within
          have hpl8 := k8 _ _ plh plh (e7 _ _ hpl6)
          have hmb8 := k8 _ _ mbh mbh (e7 _ _ hmb6)
          refine ⟨.ref mb, rfl, Or.inl ⟨rfl, ys, sq_of hmb8⟩, _, rfl, _, rfl, _, rfl, _, _, rfl, rfl, ?_⟩
          have ek : ((k + 1 : Nat) : Int) - 1 = (k : Int) := by omega
          refine ⟨h, pl, _, rest, by show [V.ref h, V.ref pl, V.int (((k + 1 : Nat) : Int) - 1)] = _; rw [ek], by omega, A8, by omega, plh, hpl8, by omega, few, fun v n' b' ms' rest' H9 A9 k9 hpl9 tv9 hns9 hl9 hok9 hdp9 hb9 => ?_⟩
          have hmb9 := k9 _ _ mbh mbp hmb8
          refine ⟨mb, ys, v, rfl, rfl, hmb9, sz_lt (by omega), ?_⟩
          have tk9 : TK H6 H9 := ((TK.ex e7).trans (tk_bx (A6.ex e7) k8)).trans (fun a xs ha => k9 a _ (fun z => by
            subst z
            obtain ⟨_, _, _, B⟩ := A8
            rw [B.hh] at ha
            cases ha) (fun z => by
            subst z
            rw [hpl8] at ha
            cases ha) ha)
          have tkP : TK H9 (upd H9 mb (.lst (ys ++ [v]))) := TK.lst hmb9
          refine ⟨ys ++ [v], ts ++ [.grp n' b' ms'], rest', _, rfl, mutA mbh (A9.up (by rw [jm, hdr]; omega)), mutK (((k6.trans (Kp.ex e7)).trans (kp_l k8)).trans k9), by rw [upd_ne (Ne.symm mbp)]; exact hpl9, upd_same, trvs_tk tkP _ _ (trvs_app (trvs_tk tk9 _ _ tvs) (.cons tv9 .nil)), ?_, by omega, oks_app hoks ⟨hok9, trivial⟩, ?_, by rw [List.length_append]; simp [htl]⟩
          · rw [nmss_one, hns, hns9, List.append_assoc]
          · rw [deeps_one]
            omega
        · exact pop A8 (by rw [jm, hdr]; omega) ((Kp.ex e7).trans k8) rfl
      · refine iteF' (decide_eq_false (by omega)) ?_
        exact iteF' rfl (pop (A6.ex e7) (by rw [jm]; omega) (Kp.ex e7) rfl)
    · refine ⟨_, rfl, _, _, rfl, rfl, _, rfl, ?_⟩
      refine iteF' (decide_eq_false (by omega)) ?_
      exact iteF' rfl (pop A6 (by rw [jm]; omega) (Kp.refl _ _ _) rfl)
  intro σ' H6 hP
  obtain ⟨ys, ts, rest, c6, rfl, A6, k6, hpl6, hmb6, tvs, hns, hlen, hoks, hdp, htl⟩ := hP
  have hn3 : (1 + r3).toNat ≤ 3 := by omega
  have hn3' : 1 ≤ (1 + r3).toNat := by omega
  refine s_retP ?_
  refine ⟨_, rfl, _, rfl, _, rfl, mb, ys, rfl, Or.inl ⟨sq_of hmb6, fun t ht => ⟨(by show 3 ≤ sizeLine; decide), fun g hg => ?_⟩⟩⟩
  have e7 := (Ex.new (o := .tup ys) ht).trans (Ex.new (o := .tup [.str n, .int b, .ref t]) hg)
  have hdr : 3 + 3 * (dr d / 3 - 1) ≤ dr d := by
    cases d with
    | zero => decide
    | succ k =>
      simp only [dr]
      omega
  refine q (.ref g) n b ts rest _ ((A6.ex e7).up ?_) (k6.trans (Kp.ex e7)) (e7 _ _ hpl6) (.grp upd_same ((Ex.new hg) _ _ upd_same) (trvs_tk (TK.ex e7) _ _ tvs)) ?_ (by omega) ?_ (by simp only [Tr.deep]; omega) b4
  · have := Nat.mul_le_mul_right (dr d / 3 - 1) hn3
    omega
  · simp only [Tr.nms]
    rw [hns]
    rfl
  · simp only [Tr.ok]
    exact ⟨b1, by omega, fun z => by rw [z] at htl; simp at htl; omega, hoks⟩
theorem gr_all (T : Tp w K mg) : ∀ d, FnOk P w K mg base CX0 (d + 2) T.f__law_group T.d__law_group ["_law_box_here", "_law_pool", "_law_deep"] (spGr d)
  | 0 => gr_step T (spR := fun _ _ _ _ => False) ⟨fun _ _ _ _ h => h.elim, fun _ _ _ _ _ _ _ _ _ _ _ _ _ h => h.elim⟩ (fun k h => by cases h)
  | d + 1 => gr_step T (gr_all T d) (fun k h => by cases h; rfl)
end

/-! ### names of one to three letters -/
def nm11 (st bb : Int) (k : Nat) : Str := ⟨(List.replicate (1 + ((st + (k : Int)) % 3).toNat) (97 + ((st + bb * (k : Int)) % 26).toNat)).toArray⟩
theorem nm11_ok (st bb : Int) (k : Nat) : nameOk (nm11 st bb k) := by
  have r0 : 0 ≤ (st + (k : Int)) % 3 := Int.emod_nonneg _ (by decide)
  have r1 : (st + (k : Int)) % 3 < 3 := Int.emod_lt_of_pos _ (by decide)
  have l : (nm11 st bb k).length = 1 + ((st + (k : Int)) % 3).toNat := by simp [nm11, Str.length]
  refine ⟨by rw [l]; omega, by rw [l]; omega, fun c hc => ?_⟩
  have : c = 97 + ((st + bb * (k : Int)) % 26).toNat := by
    have : c ∈ List.replicate (1 + ((st + (k : Int)) % 3).toNat) (97 + ((st + bb * (k : Int)) % 26).toNat) := by simpa [nm11] using hc
    exact List.eq_of_mem_replicate this
  omega
def by11 (b : Int) : Prop := b = 1 ∨ b = 25 ∨ b = 3 ∨ b = 7
theorem nm11_inj {st bb : Int} (h : by11 bb) {i j : Nat} (hi : i < 20) (hj : j < 20) (e : nm11 st bb i = nm11 st bb j) : i = j := by
  have e1 := congrArg (fun s : Str => s.cps.toList.head?) e
  have e2 : ((st + bb * (i : Int)) % 26).toNat = ((st + bb * (j : Int)) % 26).toNat := by
    simp only [nm11, Nat.add_comm 1, List.replicate_succ, List.toList_toArray, List.head?_cons, Option.some.injEq] at e1
    omega
  rcases h with rfl | rfl | rfl | rfl <;> omega
theorem names11_nodup {st bb : Int} (h : by11 bb) : ((List.range 20).map (nm11 st bb)).Nodup := by
  rw [List.Nodup, List.pairwise_map]
  refine List.Pairwise.imp_of_mem ?_ (List.nodup_range (n := 20))
  intro a b ha hb ne e
  exact ne (nm11_inj h (List.mem_range.mp ha) (List.mem_range.mp hb) e)
def rMulS : R2 := fun x y H Q => ∃ (c n : Nat), x = .str ⟨#[c]⟩ ∧ y = .int (n : Int) ∧ 1 ≤ n ∧ n ≤ 3 ∧ Q (.str ⟨(List.replicate n c).toArray⟩) H
theorem op_mulS {X : Cx} : OpR X (binaryOp .Mult) rMulS := by
  intro pins s σ H x y v u Q I rx ry h
  obtain ⟨c, n, rfl, rfl, n1, n3, q⟩ := h
  obtain ⟨t, rfl⟩ := rx
  obtain ⟨t', rfl⟩ := ry
  have hl : (⟨#[c]⟩ : Str).length = 1 := rfl
  have hn : n = 1 ∨ n = 2 ∨ n = 3 := by omega
  refine P.mul_str (by rcases hn with rfl | rfl | rfl <;> rfl) (fun _ _ => ?_) (fun _ _ => ?_) ?_
  · rw [hl]
    rcases hn with rfl | rfl | rfl <;> decide
  · rw [hl]
    rcases hn with rfl | rfl | rfl <;> decide +kernel
  · rcases hn with rfl | rfl | rfl
    · exact ⟨.str ⟨#[c]⟩, H, I, ⟨t, rfl⟩, q⟩
    · exact ⟨(by show 2 ≤ sizeLine; decide), .str ⟨#[c, c]⟩, H, I.tok _, ⟨_, rfl⟩, q⟩
    · exact ⟨(by show 3 ≤ sizeLine; decide), .str ⟨#[c, c, c]⟩, H, I.tok _, ⟨_, rfl⟩, q⟩
theorem alpha_at : ∀ i : Fin 26, ("abcdefghijklmnopqrstuvwxyz" : Str).cps.toList[i.val]? = some (97 + i.val) := by decide +kernel
def spPlan : Sp := fun vs H Q _ => ∃ (h : Addr) (C : Nat), vs = [.ref h] ∧ Bx H h C ∧ C ≤ 50000 ∧ ∀ v n b ms H', Bx H' h (C + 60) → Kp h h H H' → TrV H' v (.grp n b ms) → (Tr.grp n b ms).ok → (Tr.grp n b ms).deep ≤ 3 → (Tr.grp n b ms).nms.Nodup → (∀ x ∈ (Tr.grp n b ms).nms, nameOk x) → (Tr.grp n b ms).size ≤ 20 → Q v H'
section
variable {P : Program} {w : World} {K : PySem.W.Frag} {mg : Str → Option Value} {base : Heap}
def spGrA : Sp := fun vs H Q E => ∃ d, d ≤ 2 ∧ spGr d vs H Q E
theorem ok__law_group (T : Tp w K mg) : FnOk P w K mg base CX0 4 T.f__law_group T.d__law_group ["_law_box_here", "_law_pool", "_law_deep"] spGrA :=
  ⟨fun vs H Q E h => by
    obtain ⟨d, _, h⟩ := h
    exact (gr_all (P := P) (base := base) T d).len vs H Q E h, fun A outer s H args us vs Q E hr e0 hb r h => by
    obtain ⟨d, hd, h⟩ := h
    exact ((gr_all T d).mono (by omega)).run A outer s H args us vs Q E hr e0 hb r h⟩
theorem nms_size : ∀ t : Tr, t.nms.length = t.size := fun t => by
  rw [← told_nms t [], List.length_map, told_len]
theorem ok__law_plan (T : Tp w K mg) : FnOk P w K mg base CX0 5 T.f__law_plan T.d__law_plan ["_law_box_here"] spPlan := by
  refine T.F__law_plan.ok sc__law_plan (fun vs H Q E h => ?_) (fun cdv A outer s H vs Q E hr h => ?_)
  · obtain ⟨h, C, rfl, _⟩ := h
    rfl
  obtain ⟨h, C, rfl, A0, hC, q⟩ := h
  refine ⟨_, (pss_cons (ps_asg (pe_tup (pa_cons pe_str (pa_cons (pe_call (ok__law_take T) (hr.mono (by decide)) rfl T.m__law_take T.F__law_take.kp (b__law_take T) .nil pass0 (pa_cons (pv 0) (pa_cons pe_int pa_nil (star1 rfl)) (star1 rfl)) (by decide) (star1 rfl) (starAll rfl)) (pa_cons (pe_ix (ixLK (K := K) rfl) (pe_lst (pa_cons pe_int (pa_cons pe_int (pa_cons pe_int (pa_cons pe_int pa_nil (star1 rfl)) (star1 rfl)) (star1 rfl)) (star1 rfl))) (pe_call (ok__law_take T) (hr.mono (by decide)) rfl T.m__law_take T.F__law_take.kp (b__law_take T) .nil pass0 (pa_cons (pv 0) (pa_cons pe_int pa_nil (star1 rfl)) (star1 rfl)) (by decide) (star1 rfl) (starAll rfl)) (fun _ _ => rfl)) pa_nil (star1 rfl)) (star1 rfl)) (star1 rfl))) (pg_tup rfl (pgs_cons (pg_name (i := 1) sc__law_plan.nd rfl (Or.inr rfl)) (pgs_cons (pg_name (i := 2) sc__law_plan.nd rfl (Or.inr rfl)) (pgs_cons (pg_name (i := 3) sc__law_plan.nd rfl (Or.inr rfl)) pgs_nil)))))
  (pss_cons (ps_setLc (i := 4) (own := [("_law_k", 5)]) (g := gName 5) (tt := tYes) rfl sc__law_plan.nd rfl rfl (sw_true rfl rfl rfl (by decide +kernel)) (pi_range1 rfl T.z_range (pa_cons pe_int pa_nil (star1 rfl))) (blkOk_by (N := N__law_plan) (sc := defScope s__law_plan) (by decide +kernel)) (fun _ _ _ _ _ => (pg_name (i := 5) sc__law_plan.nd rfl (Or.inl rfl))) (fun _ _ _ _ _ => pts_nil) (fun _ _ _ _ _ => (pe_op op_mulS (pe_ix ix_str (pv 1) (pe_op op_mod (pe_op op_add (pv 2) (pe_op op_mul (pv 3) (pv 5))) pe_int) (fun _ _ => rfl)) (pe_op op_add pe_int (pe_op op_mod (pe_op op_add (pv 2) (pv 5)) pe_int)))))
  (pss_one (ps_ret (pe_call (ok__law_group T) (hr.mono (by decide)) rfl T.m__law_group T.F__law_group.kp (b__law_group T) .nil pass0 (pa_cons (pv 0) (pa_cons (pv 4) (pa_cons (pe_call (ok__law_take T) (hr.mono (by decide)) rfl T.m__law_take T.F__law_take.kp (b__law_take T) .nil pass0 (pa_cons (pv 0) (pa_cons pe_int pa_nil (star1 rfl)) (star1 rfl)) (by decide) (star1 rfl) (starAll rfl)) pa_nil (star1 rfl)) (star1 rfl)) (star1 rfl)) (by decide) (star1 rfl) (starAll rfl)))))), ?_⟩
  refine q_asgG ?_
  refine take_at rfl A0 (by omega) (by decide) (by decide) fun st H1 st0 st1 A1 k1 => ?_
  refine ⟨(by show 4 ≤ sizeLine; decide), fun p hp => ?_⟩
  refine take_at rfl (A1.new hp) (by omega) (by decide) (by decide) fun r2 H2 r20 r21 A2 k2 => ?_
  have hp2 : H2 p = some (.lst [.int 1, .int 25, .int 3, .int 7]) := k2 _ _ (A1.fresh hp) (A1.fresh hp) upd_same
  obtain ⟨bb, hbb, hby⟩ : ∃ b : Int, atI [V.int 1, .int 25, .int 3, .int 7] r2 = some (.int b) ∧ by11 b := by
    have : r2 = 0 ∨ r2 = 1 ∨ r2 = 2 ∨ r2 = 3 := by omega
    rcases this with rfl | rfl | rfl | rfl
    · exact ⟨1, rfl, .inl rfl⟩
    · exact ⟨25, rfl, .inr (.inl rfl)⟩
    · exact ⟨3, rfl, .inr (.inr (.inl rfl))⟩
    · exact ⟨7, rfl, .inr (.inr (.inr rfl))⟩
  have bb0 : 0 ≤ bb ∧ bb ≤ 25 := by rcases hby with z | z | z | z <;> omega
  refine ⟨p, _, r2, .int bb, rfl, rfl, sq_of hp2, hbb, (by show 3 ≤ sizeLine; decide), fun t ht => ⟨t, _, rfl, st_of upd_same, rfl, _, _, rfl, _, _, rfl, _, _, rfl, rfl, ?_⟩⟩
  have e3 := Ex.new (o := .tup [.str "abcdefghijklmnopqrstuvwxyz", .int st, .int bb]) ht
  have A3 := A2.ex e3
  have k03 : Kp h h H (upd H2 t (.tup [.str "abcdefghijklmnopqrstuvwxyz", .int st, .int bb])) := ((k1.trans (Kp.ex (Ex.new hp))).trans k2).trans (Kp.ex e3)
  generalize upd H2 t (.tup [.str "abcdefghijklmnopqrstuvwxyz", .int st, .int bb]) = H3 at A3 k03
  have el : ∀ {H' : Hp} (k : Nat), k < 20 → Ev (tOp rMulS (tOp rIxS (tVar 1) (tOp (rI (fun _ j => 0 < j) fun i j => .int (i % j)) (tOp (rI0 fun i j => .int (i + j)) (tVar 2) (tOp (rI CMul fun i j => .int (i * j)) (tVar 3) (tVar 5))) (tC (.int 26)))) (tOp (rI0 fun i j => .int (i + j)) (tC (.int 1)) (tOp (rI (fun _ j => 0 < j) fun i j => .int (i % j)) (tOp (rI0 fun i j => .int (i + j)) (tVar 2) (tVar 5)) (tC (.int 3))))) [some (.ref h), some (.str "abcdefghijklmnopqrstuvwxyz"), some (.int st), some (.int bb), none, some (.int (0 + (k : Int)))] H' (.str (nm11 st bb k)) := by
    intro H' k hk
    have r0 : 0 ≤ (st + bb * (0 + (k : Int))) % 26 := Int.emod_nonneg _ (by decide)
    have r1 : (st + bb * (0 + (k : Int))) % 26 < 26 := Int.emod_lt_of_pos _ (by decide)
    have s0 : 0 ≤ (st + (0 + (k : Int))) % 3 := Int.emod_nonneg _ (by decide)
    have s1 : (st + (0 + (k : Int))) % 3 < 3 := Int.emod_lt_of_pos _ (by decide)
    refine ev_is (ev_op (x := .str ⟨#[97 + ((st + bb * (0 + (k : Int))) % 26).toNat]⟩) (y := .int (1 + (st + (0 + (k : Int))) % 3)) (ev_op (ev_var rfl) (ev_I (by decide) (ev_I0 (g := fun i j => .int (i + j)) (ev_var rfl) (ev_I (C := CMul) (g := fun i j => .int (i * j)) (Or.inl ⟨by omega, by omega⟩) (ev_var rfl) (ev_var rfl))) ev_c) fun H5 _ Q' q' => ⟨_, _, _, rfl, rfl, (by decide +kernel), ?_, q' H5 (Ex.refl H5)⟩) (ev_I0 (g := fun i j => .int (i + j)) ev_c (ev_I (by decide) (ev_I0 (g := fun i j => .int (i + j)) (ev_var rfl) (ev_var rfl)) ev_c)) fun H5 _ Q' q' => ⟨_, (1 + (st + (0 + (k : Int))) % 3).toNat, rfl, ?_, by omega, by omega, q' H5 (Ex.refl H5)⟩) ?_
    · have := alpha_at ⟨((st + bb * (0 + (k : Int))) % 26).toNat, by omega⟩
      unfold atI ixN
      have hl : ("abcdefghijklmnopqrstuvwxyz" : Str).cps.toList.length = 26 := by decide +kernel
      rw [if_pos r0, if_pos (by rw [hl]; omega)]
      exact this
    · congr 1
      omega
    · congr 1
      unfold nm11
      rw [Int.zero_add]
      congr 3
      omega
  refine q_asgP ?_
  refine ⟨20, rfl, by decide, by decide, fun D hD => ?_⟩
  have dh := A3.fresh hD
  refine lc_range (lo := 0) (n := (20 : Int).toNat) (fun i H' => Ex H3 H' ∧ H' D = some (.lst (((List.range i).map (nm11 st bb)).map V.str))) ⟨Ex.new hD, upd_same⟩ ?_ ?_
  · intro i H4 hi hP
    obtain ⟨e4, hacc⟩ := hP
    have hi20 : i < 20 := by simpa using hi
    refine ⟨rfl, tYesQ ?_⟩
    refine el i hi20 H4 (Ex.refl H4) _ fun H5 e5 => ⟨_, e5 _ _ hacc, sz_lt (by rw [List.length_map, List.length_map, List.length_range]; omega), Ex.mut (e4.trans e5) hD, ?_⟩
    rw [upd_same, List.range_succ, List.map_append, List.map_append]
    rfl
  intro H4 hP
  obtain ⟨e4, hacc⟩ := hP
  have e20 : (20 : Int).toNat = 20 := rfl
  rw [e20] at hacc
  have A4 := A3.ex e4
  refine s_retP ?_
  refine ⟨_, rfl, _, rfl, ?_⟩
  refine take_at rfl A4 (by omega) (by decide) (by decide) fun r5 H5 r50 r51 A5 k5 => ?_
  have e5 : (r5 : Int) = ((r5.toNat : Nat) : Int) := by omega
  have hd5 := k5 _ _ dh dh hacc
  have HD : H D = none := by
    cases z : H D with
    | none => rfl
    | some o => rw [k03 D o dh dh z] at hD; cases hD
  refine ⟨r5.toNat, by omega, h, D, _, (List.range 20).map (nm11 st bb), by rw [← e5]; rfl, by omega, A5, by omega, dh, hd5, by simp, by simp, fun v n b ms rest H6 A6 k6 _ tv hns _ hok hdp _ => ?_⟩
  have nd := names11_nodup (st := st) hby
  have ndl : ((List.range 20).map (nm11 st bb)).length = 20 := by simp
  have hdr : dr r5.toNat ≤ 51 := by
    have : r5.toNat = 0 ∨ r5.toNat = 1 ∨ r5.toNat = 2 := by omega
    rcases this with z | z | z <;> rw [z] <;> decide
  refine q v n b ms H6 (A6.up (by omega)) (fun a o u1 u2 ha => k6 a o u1 (fun z => ?_) (k5 a o u1 u1 (e4 _ _ (k03 a o u1 u1 ha)))) tv hok (by omega) ?_ (fun x hx => ?_) ?_
  · subst z
    rw [HD] at ha
    cases ha
  · rw [hns] at nd
    exact (List.nodup_append.mp nd).1
  · have : x ∈ (List.range 20).map (nm11 st bb) := by rw [hns]; exact List.mem_append_left _ hx
    obtain ⟨k, _, rfl⟩ := List.mem_map.mp this
    exact nm11_ok _ _ _
  · have := congrArg List.length hns
    rw [ndl, List.length_append, nms_size] at this
    omega
end

/-! ### the parts of a plan, by the law -/
abbrev RP := Str × Option Str × Option Int
mutual
def partsT : Tr → Option Str → List RP
  | .hand n, a => [(n, a, none)]
  | .grp n b ms, a => (n, a, some b) :: partsTs ms (some n)
def partsTs : List Tr → Option Str → List RP
  | [], _ => []
  | t :: ts, a => partsT t a ++ partsTs ts a
end
mutual
theorem parts_hands : ∀ (t : Tr) (a : Option Str) (p : List Str), ((partsT t a).filter fun r => r.2.2.isNone).map (·.1) = ((t.told p).filter fun r => !r.2.1).map (·.1)
  | .hand n, a, p => by simp [partsT, Tr.told]
  | .grp n b ms, a, p => by
    simp only [partsT, Tr.told, List.filter_cons]
    simpa using partss_hands ms (some n) (n :: p)
theorem partss_hands : ∀ (ts : List Tr) (a : Option Str) (p : List Str), ((partsTs ts a).filter fun r => r.2.2.isNone).map (·.1) = ((tolds ts p).filter fun r => !r.2.1).map (·.1)
  | [], a, p => by simp [partsTs, tolds]
  | t :: ts, a, p => by simp only [partsTs, tolds, List.filter_append, List.map_append, parts_hands t a p, partss_hands ts a p]
end
mutual
theorem parts_len : ∀ (t : Tr) (a : Option Str), (partsT t a).length = t.size
  | .hand n, a => by simp [partsT, Tr.size]
  | .grp n b ms, a => by simp [partsT, Tr.size, partss_len ms]
theorem partss_len : ∀ (ts : List Tr) (a : Option Str), (partsTs ts a).length = sizes ts
  | [], a => by simp [partsTs, sizes]
  | t :: ts, a => by simp [partsTs, sizes, parts_len t, partss_len ts]
end
theorem partss_take : ∀ {ts : List Tr} {i : Nat} {t : Tr} {a : Option Str}, ts[i]? = some t → partsTs (ts.take (i + 1)) a = partsTs (ts.take i) a ++ partsT t a
  | u :: ts, 0, t, a, h => by
    cases h
    simp [partsTs]
  | u :: ts, i + 1, t, a, h => by
    have := partss_take (ts := ts) (i := i) (t := t) (a := a) (by simpa using h)
    simp only [List.take_succ_cons, partsTs, this, List.append_assoc]
def opS : Option Str → V
  | none => .non
  | some s => .str s
def opI : Option Int → V
  | none => .non
  | some b => .int b
def RowP (H : Hp) (v : V) (r : RP) : Prop := ∃ t, v = .ref t ∧ H t = some (.tup [.str r.1, opS r.2.1, opI r.2.2])
inductive RowsP (H : Hp) : List V → List RP → Prop
  | nil : RowsP H [] []
  | cons {v : V} {vs : List V} {r : RP} {rs : List RP} : RowP H v r → RowsP H vs rs → RowsP H (v :: vs) (r :: rs)
theorem RowP.tk {H H' : Hp} {v : V} {r : RP} (k : TK H H') (h : RowP H v r) : RowP H' v r := by
  obtain ⟨t, e, h1⟩ := h
  exact ⟨t, e, k _ _ h1⟩
theorem RowsP.tk {H H' : Hp} (k : TK H H') : ∀ {vs : List V} {rs : List RP}, RowsP H vs rs → RowsP H' vs rs
  | _, _, .nil => .nil
  | _, _, .cons a b => .cons (a.tk k) (b.tk k)
theorem RowsP.app {H : Hp} : ∀ {vs us : List V} {rs qs : List RP}, RowsP H vs rs → RowsP H us qs → RowsP H (vs ++ us) (rs ++ qs)
  | _, _, _, _, .nil, h => h
  | _, _, _, _, .cons a b, h => .cons a (b.app h)
theorem RowsP.len {H : Hp} : ∀ {vs : List V} {rs : List RP}, RowsP H vs rs → vs.length = rs.length
  | _, _, .nil => rfl
  | _, _, .cons _ t => by rw [List.length_cons, List.length_cons, t.len]
theorem RowsP.get {H : Hp} : ∀ {vs : List V} {rs : List RP} {i : Nat} {v : V}, RowsP H vs rs → vs[i]? = some v → ∃ r, rs[i]? = some r ∧ RowP H v r
  | _, _, _, _, .nil, e => by simp at e
  | _, _, 0, _, .cons r _, e => by simp at e; subst e; exact ⟨_, rfl, r⟩
  | _, _, i + 1, v, .cons _ t, e => by
    obtain ⟨d, h1, h2⟩ := t.get (i := i) (v := v) (by simpa using e)
    exact ⟨d, by simpa using h1, h2⟩
def spParts (d : Nat) : Sp := fun vs H Q _ => ∃ (v : V) (n : Str) (b : Int) (ms : List Tr) (a : Option Str), vs = [v, opS a] ∧ TrV H v (.grp n b ms) ∧ (Tr.grp n b ms).deep ≤ d ∧ (Tr.grp n b ms).size ≤ 1000 ∧ ∀ r xs H', Ex H H' → H r = none → H' r = some (.lst xs) → RowsP H' xs (partsT (.grp n b ms) a) → Q (.ref r) H'
def spLHs : Sp := fun vs H Q _ => ∃ (v : V) (n : Str) (b : Int) (ms : List Tr), vs = [v] ∧ TrV H v (.grp n b ms) ∧ (Tr.grp n b ms).deep ≤ 4 ∧ (Tr.grp n b ms).size ≤ 1000 ∧ ∀ r H', Ex H H' → H r = none → H' r = some (.lst ((handsOf (.grp n b ms)).map V.str)) → Q (.ref r) H'
section
variable {P : Program} {w : World} {K : PySem.W.Frag} {mg : Str → Option Value} {base : Heap}
theorem pa_step (T : Tp w K mg) {d : Nat} {spR : Sp} (ih : FnOk P w K mg base CX0 d T.f__law_parts T.d__law_parts ["_law_group_here", "_law_around"] spR) (hR : ∀ k, d = k + 1 → spR = spParts k) : FnOk P w K mg base CX0 (d + 1) T.f__law_parts T.d__law_parts ["_law_group_here", "_law_around"] (spParts d) := by
  refine T.F__law_parts.ok sc__law_parts (fun vs H Q E h => ?_) (fun cdv A outer s H vs Q E hr h => ?_)
  · obtain ⟨v, n, b, ms, a, rfl, _⟩ := h
    rfl
  obtain ⟨v, n, b, ms, ar, rfl, tv, hdp, hsz, q⟩ := h
  refine ⟨_, (pss_cons (ps_set (i := 2) sc__law_parts.nd rfl (Or.inl rfl) (pe_lst (pa_cons (pe_tup (pa_cons (pe_ix (ixTK (K := K) rfl) (pv 0) pe_int (fun _ _ => rfl)) (pa_cons (pv 1) (pa_cons (pe_ix (ixTK (K := K) rfl) (pv 0) pe_int (fun _ _ => rfl)) pa_nil (star1 rfl)) (star1 rfl)) (star1 rfl))) pa_nil (star1 rfl))))
  (pss_cons (ps_for PassesOwn.never rfl (piTK (K := K) rfl (pe_ix (ixTK (K := K) rfl) (pv 0) pe_int (fun _ _ => rfl))) (pg_name (i := 3) sc__law_parts.nd rfl (Or.inl rfl)) (pss_one (ps_expr (pe_bm PySem.F.plainAttrs_list PySem.F.slot_list_extend PySem.F.type_list_extend mt_extend (pv 2) (pa_cons (pe_ifExp (pt_val (pe_callB (isiK (K := K) rfl) rfl T.z_isinstance (by decide +kernel) (pa_cons (pv 3) (pa_cons (pe_bltn (v := .ty "str") rfl T.z_str (by decide +kernel) rfl) pa_nil (star1 rfl)) (star1 rfl)) (by decide) (by decide) (star1 rfl) (starAll rfl))) (pe_lst (pa_cons (pe_tup (pa_cons (pv 3) (pa_cons (pe_ix (ixTK (K := K) rfl) (pv 0) pe_int (fun _ _ => rfl)) (pa_cons pe_non pa_nil (star1 rfl)) (star1 rfl)) (star1 rfl))) pa_nil (star1 rfl))) (pe_call ih hr rfl T.m__law_parts T.F__law_parts.kp (b__law_parts T) .nil pass0 (pa_cons (pv 3) (pa_cons (pe_ix (ixTK (K := K) rfl) (pv 0) pe_int (fun _ _ => rfl)) pa_nil (star1 rfl)) (star1 rfl)) (by decide) (star1 rfl) (starAll rfl))) pa_nil (star1 rfl))))))
  (pss_one (ps_ret (pv 2))))), ?_⟩
  cases tv with
  | @grp a m _ _ xs _ h1 h2 h3 =>
    obtain ⟨k, rfl⟩ : ∃ k, d = k + 1 := ⟨d - 1, by simp only [Tr.deep] at hdp; omega⟩
    have eR := hR k rfl
    subst eR
    have hsz2 : sizes ms ≤ 1000 := by simp only [Tr.size] at hsz; omega
    have hdp2 : deeps ms ≤ k := by simp only [Tr.deep] at hdp; omega
    have ix : ∀ {H' : Hp} {σ : L2.St} {i : Int} {u : V}, Ex H H' → σ[0]? = some (some (.ref a)) → atI [V.str n, .int b, .ref m] i = some u → Ev (tOp (rIxT K) (tVar 0) (tC (.int i))) σ H' u := fun e hσ hi => ev_ixT (ev_var hσ) ev_c (st_of (e _ _ h1)) hi
    refine q_asgP ?_
    refine (ix (i := 0) (Ex.refl H) rfl rfl) H (Ex.refl H) _ fun H1 e1 => ⟨_, rfl, ?_⟩
    refine (ix (i := 1) e1 rfl rfl) H1 (Ex.refl H1) _ fun H2 e2 => ⟨(by show 3 ≤ sizeLine; decide), fun t0 ht0 => ⟨(by show 1 ≤ sizeLine; decide), fun r hr0 => ?_⟩⟩
    have e02 := e1.trans e2
    have e3 := Ex.new (o := .tup [.str n, opS ar, .int b]) ht0
    have e4 := Ex.new (o := .lst [.ref t0]) hr0
    have rH : H r = none := fresh_back (e02.trans e3) hr0
    have row1 : RowP (upd (upd H2 t0 (.tup [.str n, opS ar, .int b])) r (.lst [.ref t0])) (.ref t0) (n, ar, some b) := ⟨t0, rfl, e4 _ _ upd_same⟩
    have h4r : upd (upd H2 t0 (.tup [.str n, opS ar, .int b])) r (.lst [.ref t0]) r = some (.lst [.ref t0]) := upd_same
    have e04 := (e02.trans e3).trans e4
    generalize upd (upd H2 t0 (.tup [.str n, opS ar, .int b])) r (.lst [.ref t0]) = H4 at row1 h4r e04
    refine q_forT (K := K) (a := m) (xs := xs) (ix (i := 2) e04 rfl rfl) (st_of (e04 _ _ h2)) (fun i σ' H' => Ex H H' ∧ ∃ ys c, σ' = [some (.ref a), some (opS ar), some (.ref r), c] ∧ H' r = some (.lst ys) ∧ RowsP H' ys ((n, ar, some b) :: partsTs (ms.take i) (some n))) ?_ ?_ ?_ ?_
    · intro H5 e5
      exact ⟨e04.trans e5, [.ref t0], none, rfl, e5 _ _ h4r, .cons (row1.tk (TK.ex e5)) .nil⟩
    · intro i σ' H' _ hP
      exact st_of (hP.1 _ _ h2)
    · intro i x σ' H5 hx hP
      obtain ⟨e5, ys, c, rfl, hry, rws⟩ := hP
      obtain ⟨t, ht, tv⟩ := trvs_get h3 hx
      have tv2 := trv_tk (TK.ex e5) t x tv
      have s1 := sizes_mem ht
      have s2 := deeps_mem ht
      have s4 : (partsTs (ms.take i) (some n)).length ≤ 1000 := by
        rw [partss_len]
        exact Nat.le_trans (sizes_take ms i) hsz2
      have s5 := rws.len
      rw [List.length_cons] at s5
      refine s_dropP ?_
      refine ⟨.ref r, rfl, Or.inl ⟨rfl, ys, sq_of hry⟩, ?_⟩
      refine (et_B (ev_isHand (ev_var rfl) tv2)) H5 (Ex.refl H5) _ fun H6 e6 => ?_
      refine ite2 (fun hb => ?_) (fun hb => ?_)
      · cases tv2 with
        | hand nm =>
          refine ⟨_, rfl, ?_⟩
          refine (ix (i := 0) (e5.trans e6) rfl rfl) H6 (Ex.refl H6) _ fun H7 e7 => ⟨(by show 3 ≤ sizeLine; decide), fun t1 ht1 => ⟨(by show 1 ≤ sizeLine; decide), fun p hp => ?_⟩⟩
          have e57 := e6.trans e7
          have eA := Ex.new (o := .tup [.str nm, .str n, .non]) ht1
          have eB := Ex.new (o := .lst [.ref t1]) hp
          refine ⟨r, p, ys, [.ref t1], rfl, rfl, eB _ _ (eA _ _ (e57 _ _ hry)), upd_same, sz_of (by simp; omega), ?_⟩
          have hrB : (upd (upd H7 t1 (.tup [.str nm, .str n, .non])) p (.lst [.ref t1])) r = some (.lst ys) := eB _ _ (eA _ _ (e57 _ _ hry))
          have tkP : TK (upd (upd H7 t1 (.tup [.str nm, .str n, .non])) p (.lst [.ref t1])) (upd (upd (upd H7 t1 (.tup [.str nm, .str n, .non])) p (.lst [.ref t1])) r (.lst (ys ++ [.ref t1]))) := TK.lst hrB
          refine ⟨Ex.mut (((e5.trans e57).trans eA).trans eB) rH, _, _, rfl, upd_same, ?_⟩
          rw [partss_take ht]
          refine RowsP.app (rs := (n, ar, some b) :: partsTs (ms.take i) (some n)) (rws.tk ((TK.ex ((e57.trans eA).trans eB)).trans tkP)) (.cons (RowP.tk tkP ⟨t1, rfl, eB _ _ upd_same⟩) .nil)
        | grp _ _ _ => cases hb
      · cases tv2 with
        | hand nm => exact absurd rfl hb
        | @grp a' m' n' b' xs' ms' g1 g2 g3 =>
          refine ⟨_, rfl, ?_⟩
          refine (ix (i := 0) (e5.trans e6) rfl rfl) H6 (Ex.refl H6) _ fun H7 e7 => ?_
          have e57 := e6.trans e7
          refine ⟨.ref a', n', b', ms', some n, rfl, trv_tk (TK.ex e57) _ _ (.grp g1 g2 g3), by omega, by omega, fun r1 zs H8 e8 hr1 h8 rz => ?_⟩
          have hr8 := e8 _ _ (e57 _ _ hry)
          have zl := rz.len
          rw [parts_len] at zl
          refine ⟨r, r1, ys, zs, rfl, rfl, hr8, h8, sz_of (by omega), ?_⟩
          have tkP : TK H8 (upd H8 r (.lst (ys ++ zs))) := TK.lst hr8
          refine ⟨Ex.mut ((e5.trans e57).trans e8) rH, _, _, rfl, upd_same, ?_⟩
          rw [partss_take ht]
          exact RowsP.app (rs := (n, ar, some b) :: partsTs (ms.take i) (some n)) (rws.tk ((TK.ex (e57.trans e8)).trans tkP)) (rz.tk tkP)
    · intro σ' H5 hP
      obtain ⟨e5, ys, c, rfl, hry, rws⟩ := hP
      rw [trvs_len h3, List.take_length] at rws
      exact s_ret (v := .ref r) (ev_var rfl) fun H6 e6 => q r ys H6 (e5.trans e6) rH (e6 _ _ hry) (by
        simp only [partsT]
        exact rws.tk (TK.ex e6))
theorem pa_all (T : Tp w K mg) : ∀ d, FnOk P w K mg base CX0 (d + 1) T.f__law_parts T.d__law_parts ["_law_group_here", "_law_around"] (spParts d)
  | 0 => pa_step T (spR := fun _ _ _ _ => False) ⟨fun _ _ _ _ h => h.elim, fun _ _ _ _ _ _ _ _ _ _ _ _ _ h => h.elim⟩ (fun k h => by cases h)
  | d + 1 => pa_step T (pa_all T d) (fun k h => by cases h; rfl)
theorem ok__law_parts (T : Tp w K mg) : FnOk P w K mg base CX0 5 T.f__law_parts T.d__law_parts ["_law_group_here", "_law_around"] (spParts 4) := pa_all T 4
theorem ok__law_hands (T : Tp w K mg) : FnOk P w K mg base CX0 6 T.f__law_hands T.d__law_hands ["_law_plan_here"] spLHs := by
  refine T.F__law_hands.ok sc__law_hands (fun vs H Q E h => ?_) (fun cdv A outer s H vs Q E hr h => ?_)
  · obtain ⟨v, n, b, ms, rfl, _⟩ := h
    rfl
  obtain ⟨v, n, b, ms, rfl, hv, hdp, hsz, q⟩ := h
  refine ⟨_, (pss_one (ps_ret (pe_lc (own := [("_law_name", 1), ("_law_around", 2), ("_law_bound", 3)]) (g := gTup K 3 (gCons (gName 1) (gCons (gName 2) (gCons (gName 3) gNil)))) rfl sc__law_hands.nd (plLK (K := K) rfl (pe_call (ok__law_parts T) (hr.mono (by decide)) rfl T.m__law_parts T.F__law_parts.kp (b__law_parts T) .nil pass0 (pa_cons (pv 0) (pa_cons pe_non pa_nil (star1 rfl)) (star1 rfl)) (by decide) (star1 rfl) (starAll rfl))) (blkOk_by (N := N__law_hands) (sc := defScope s__law_hands) (by decide +kernel)) (fun _ _ _ _ _ => (pg_tup rfl (pgs_cons (pg_name (i := 1) sc__law_hands.nd rfl (Or.inl rfl)) (pgs_cons (pg_name (i := 2) sc__law_hands.nd rfl (Or.inl rfl)) (pgs_cons (pg_name (i := 3) sc__law_hands.nd rfl (Or.inl rfl)) pgs_nil))))) (fun _ _ _ _ _ => (pts_one (pt_cmp (pc_isN (pv 3))))) (fun _ _ _ _ _ => (pv 1))))), ?_⟩
  refine s_retP ?_
  refine ⟨_, rfl, v, n, b, ms, none, rfl, hv, hdp, hsz, fun r xs H1 e1 hr1 h1 rows => ⟨r, rfl, ⟨xs, sq_of h1⟩, fun D hD => ?_⟩⟩
  generalize hrs : partsT (Tr.grp n b ms) none = rs at rows
  have hlen : rs.length ≤ 1000 := by rw [← hrs, parts_len]; exact hsz
  have hxl := rows.len
  refine lc_list (K := K) (a := r) (xs := xs) (fun i H' => Ex H1 H' ∧ H' D = some (.lst (((rs.take i).filter fun r => r.2.2.isNone).map fun r => V.str r.1))) ⟨Ex.new hD, upd_same⟩ (fun i H' _ hP => sq_of (hP.1 _ _ h1)) ?_ ?_
  · intro i x H' hx hP
    obtain ⟨e2, hacc⟩ := hP
    obtain ⟨rw', hrw, t, rfl, ht⟩ := rows.get hx
    obtain ⟨nm, ar, bd⟩ := rw'
    refine ⟨t, _, rfl, st_of (e2 _ _ ht), rfl, _, _, rfl, _, _, rfl, _, _, rfl, rfl, rfl, _, rfl, _, rfl, ?_⟩
    have tk1 : rs.take (i + 1) = rs.take i ++ [(nm, ar, bd)] := by
      obtain ⟨hi, hh⟩ := List.getElem?_eq_some_iff.mp hrw
      rw [List.take_succ_eq_append_getElem hi, hh]
    have hl2 : (((rs.take i).filter fun r => r.2.2.isNone).map fun r => V.str r.1).length ≤ 1000 := by
      rw [List.length_map]
      exact Nat.le_trans (List.length_filter_le _ _) (by rw [List.length_take]; omega)
    cases bd with
    | none =>
      refine iteT ?_
      refine ⟨_, rfl, _, hacc, sz_lt (by omega), Ex.mut e2 hD, ?_⟩
      rw [upd_same, tk1, List.filter_append]
      simp
    | some bd =>
      refine iteF ?_
      refine ⟨e2, ?_⟩
      rw [hacc, tk1, List.filter_append]
      simp
  · intro H' hP
    obtain ⟨e2, hacc⟩ := hP
    rw [hxl, List.take_length] at hacc
    refine q D H' (e1.trans e2) (fresh_back e1 hD) ?_
    rw [hacc, ← hrs]
    have e := parts_hands (Tr.grp n b ms) none []
    unfold handsOf
    rw [← e, List.map_map]
    rfl
end

/-! ### programs and books, by the law -/
theorem rf_take0 (k : Int) : rowFits (.tuple [.str (Str.ofString "take"), .none]) k = true := by
  unfold rowFits
  dsimp only
  rw [if_pos rfl]
  rfl
theorem rf_take {i : Int} (k : Int) (h : 0 ≤ i) : rowFits (.tuple [.str (Str.ofString "take"), .int i]) k = true := by
  unfold rowFits
  dsimp only
  rw [if_pos rfl]
  simp only [takeFits, wholeFrom]
  exact decide_eq_true h
theorem rf_let (k : Int) : rowFits (.tuple [.str (Str.ofString "let")]) k = true := by
  unfold rowFits
  dsimp only
  rw [if_neg (by decide +kernel), if_neg (by decide +kernel), if_pos rfl]
  rfl
theorem rf_try (k : Int) : rowFits (.tuple [.str (Str.ofString "try")]) k = true := by
  unfold rowFits
  dsimp only
  rw [if_neg (by decide +kernel), if_pos rfl]
  rfl
theorem rf_say {i : Int} (k : Int) (h : 0 ≤ i) (h2 : i ≤ 99) : rowFits (.tuple [.str (Str.ofString "say"), .int i]) k = true := by
  unfold rowFits
  dsimp only
  rw [if_neg (by decide +kernel), if_neg (by decide +kernel), if_neg (by decide +kernel), if_pos rfl]
  simp only [sayFits, decide_eq_true h, decide_eq_true h2]
  rfl
theorem rf_goto {i k : Int} (h : 0 ≤ i) (h2 : i < k) : rowFits (.tuple [.str (Str.ofString "goto"), .int i]) k = true := by
  unfold rowFits
  dsimp only
  rw [if_neg (by decide +kernel), if_neg (by decide +kernel), if_neg (by decide +kernel), if_neg (by decide +kernel), if_pos rfl]
  simp only [gotoFits, rowNum, decide_eq_true h, decide_eq_true h2]
  rfl
theorem rf_if {m i k : Int} (h : 0 ≤ i) (h2 : i < k) : rowFits (.tuple [.str (Str.ofString "if"), .int m, .int i]) k = true := by
  unfold rowFits
  dsimp only
  rw [if_neg (by decide +kernel), if_neg (by decide +kernel), if_neg (by decide +kernel), if_neg (by decide +kernel), if_neg (by decide +kernel), if_pos rfl]
  simp only [ifFits, isWhole, rowNum, decide_eq_true h, decide_eq_true h2]
  rfl
def spRow (K : PySem.W.Frag) : Sp := fun vs H Q _ => ∃ (h : Addr) (z : Int) (C : Nat), vs = [.ref h, .int z] ∧ Bx H h C ∧ C ≤ 100000 ∧ 1 ≤ z ∧ z ≤ 6 ∧ ∀ v d H', Bx H' h (C + 4) → Kp h h H H' → TD K H' 310 4 1 v d → rowFits d z = true → Q v H'
def spProgram (K : PySem.W.Frag) : Sp := fun vs H Q _ => ∃ (h : Addr) (C : Nat), vs = [.ref h] ∧ Bx H h C ∧ C ≤ 90000 ∧ ∀ v d H', Bx H' h (C + 40) → Kp h h H H' → TD K H' 2200 30 2 v d → progFits d = true → Q v H'
section
variable {P : Program} {w : World} {K : PySem.W.Frag} {mg : Str → Option Value} {base : Heap}
theorem td1 {H : Hp} {p : Addr} {a : V} {da : PyData} (hp : H p = some (.tup [a])) (ta : TD K H 100 1 0 a da) : TD K H 310 4 1 (.ref p) (.tuple [da]) := (TDs.tup (n := 3) (.cons ta .nil) (st_of hp) (by show 1 ≤ 3; decide)).up (by decide) (by decide) (by decide)
theorem td2 {H : Hp} {p : Addr} {a b : V} {da db : PyData} (hp : H p = some (.tup [a, b])) (ta : TD K H 100 1 0 a da) (tb : TD K H 100 1 0 b db) : TD K H 310 4 1 (.ref p) (.tuple [da, db]) := (TDs.tup (n := 3) (.cons ta (.cons tb .nil)) (st_of hp) (by show 2 ≤ 3; decide)).up (by decide) (by decide) (by decide)
theorem td3 {H : Hp} {p : Addr} {a b c : V} {da db dc : PyData} (hp : H p = some (.tup [a, b, c])) (ta : TD K H 100 1 0 a da) (tb : TD K H 100 1 0 b db) (tc : TD K H 100 1 0 c dc) : TD K H 310 4 1 (.ref p) (.tuple [da, db, dc]) := (TDs.tup (n := 3) (.cons ta (.cons tb (.cons tc .nil))) (st_of hp) (by show 3 ≤ 3; decide)).up (by decide) (by decide) (by decide)
theorem ok__law_row (T : Tp w K mg) : FnOk P w K mg base CX0 2 T.f__law_row T.d__law_row ["_law_box_here", "_law_size"] (spRow K) := by
  refine T.F__law_row.ok sc__law_row (fun vs H Q E h => ?_) (fun cdv A outer s H vs Q E hr h => ?_)
  · obtain ⟨h, z, C, rfl, _⟩ := h
    rfl
  obtain ⟨h, z, C, rfl, A0, hC, z1, z6, q⟩ := h
  refine ⟨_, (pss_cons (ps_par rfl sc__law_row.nd (i := 2) (j := 3) rfl rfl (by decide) rfl rfl (pa_cons (pe_call (ok__law_take T) (hr.mono (by decide)) rfl T.m__law_take T.F__law_take.kp (b__law_take T) .nil pass0 (pa_cons (pv 0) (pa_cons pe_int pa_nil (star1 rfl)) (star1 rfl)) (by decide) (star1 rfl) (starAll rfl)) (pa_cons (pe_call (ok__law_take T) (hr.mono (by decide)) rfl T.m__law_take T.F__law_take.kp (b__law_take T) .nil pass0 (pa_cons (pv 0) (pa_cons (pv 1) pa_nil (star1 rfl)) (star1 rfl)) (by decide) (star1 rfl) (starAll rfl)) pa_nil (star1 rfl)) (star1 rfl)) (by rfl))
  (pss_cons (ps_if (pt_cmpR op_lt (pv 2) pe_int (nomark _)) (pss_one (ps_ret (pe_tup (pa_cons pe_str (pa_cons (pe_ix (ixLK (K := K) rfl) (pe_lst (pa_cons pe_non (pa_cons pe_non (pa_cons pe_int (pa_cons pe_int (pa_cons (pe_call (ok__law_take T) (hr.mono (by decide)) rfl T.m__law_take T.F__law_take.kp (b__law_take T) .nil pass0 (pa_cons (pv 0) (pa_cons pe_int pa_nil (star1 rfl)) (star1 rfl)) (by decide) (star1 rfl) (starAll rfl)) pa_nil (star1 rfl)) (star1 rfl)) (star1 rfl)) (star1 rfl)) (star1 rfl))) (pe_call (ok__law_take T) (hr.mono (by decide)) rfl T.m__law_take T.F__law_take.kp (b__law_take T) .nil pass0 (pa_cons (pv 0) (pa_cons pe_int pa_nil (star1 rfl)) (star1 rfl)) (by decide) (star1 rfl) (starAll rfl)) (fun _ _ => rfl)) pa_nil (star1 rfl)) (star1 rfl))))) pss_nil)
  (pss_cons (ps_if (pt_cmpR op_lt (pv 2) pe_int (nomark _)) (pss_one (ps_ret (pe_tup (pa_cons pe_str pa_nil (star1 rfl))))) pss_nil)
  (pss_cons (ps_if (pt_cmpR op_eq (pv 2) pe_int (nomark _)) (pss_one (ps_ret (pe_tup (pa_cons pe_str pa_nil (star1 rfl))))) pss_nil)
  (pss_cons (ps_if (pt_cmpR op_eq (pv 2) pe_int (nomark _)) (pss_one (ps_ret (pe_tup (pa_cons pe_str (pa_cons (pv 3) pa_nil (star1 rfl)) (star1 rfl))))) pss_nil)
  (pss_one (ps_ret (pe_ifExp (pt_cmpR op_eq (pv 2) pe_int (nomark _)) (pe_tup (pa_cons pe_str (pa_cons (pe_ix (ixLK (K := K) rfl) (pe_lst (pa_cons pe_int (pa_cons pe_int (pa_cons (pe_un un_neg pe_int) pa_nil (star1 rfl)) (star1 rfl)) (star1 rfl))) (pe_call (ok__law_take T) (hr.mono (by decide)) rfl T.m__law_take T.F__law_take.kp (b__law_take T) .nil pass0 (pa_cons (pv 0) (pa_cons pe_int pa_nil (star1 rfl)) (star1 rfl)) (by decide) (star1 rfl) (starAll rfl)) (fun _ _ => rfl)) (pa_cons (pv 3) pa_nil (star1 rfl)) (star1 rfl)) (star1 rfl))) (pe_tup (pa_cons pe_str (pa_cons (pe_call (ok__law_take T) (hr.mono (by decide)) rfl T.m__law_take T.F__law_take.kp (b__law_take T) .nil pass0 (pa_cons (pv 0) (pa_cons pe_int pa_nil (star1 rfl)) (star1 rfl)) (by decide) (star1 rfl) (starAll rfl)) pa_nil (star1 rfl)) (star1 rfl))))))))))), ?_⟩
  refine q_parP ?_
  refine take_at rfl A0 (by omega) (by decide) (by decide) fun wy H1 wy0 wy1 A1 k1 => ?_
  refine ⟨_, rfl, _, rfl, h, z, _, rfl, A1, by omega, z1, by omega, fun at' H2 at0 at1 A2 k2 => ⟨_, _, rfl, ?_⟩⟩
  have k02 := k1.trans k2
  refine q_when (et_test (ev_I0 (ev_var rfl) ev_c)) (fun hb H3 e3 => ?_) (fun hb H3 e3 => ?_)
  · refine s_retP ?_
    refine take_at rfl (A2.ex e3) (by omega) (by decide) (by decide) fun r1 H4 r10 r11 A4 k4 => ⟨(by show 5 ≤ sizeLine; decide), fun p hp => ?_⟩
    refine take_at rfl (A4.new hp) (by omega) (by decide) (by decide) fun r2 H5 r20 r21 A5 k5 => ?_
    have hp5 : H5 p = some (.lst [.non, .non, .int 0, .int 1, .int r1]) := k5 _ _ (A4.fresh hp) (A4.fresh hp) upd_same
    have k05 : Kp h h H H5 := (((k02.trans (Kp.ex e3)).trans k4).trans (Kp.ex (Ex.new hp))).trans k5
    obtain ⟨lv, hlv, hl⟩ : ∃ lv, atI [V.non, .non, .int 0, .int 1, .int r1] r2 = some lv ∧ (lv = .non ∨ ∃ i : Int, lv = .int i ∧ 0 ≤ i ∧ i ≤ 10) := by
      have : r2 = 0 ∨ r2 = 1 ∨ r2 = 2 ∨ r2 = 3 ∨ r2 = 4 := by omega
      rcases this with rfl | rfl | rfl | rfl | rfl
      · exact ⟨_, rfl, .inl rfl⟩
      · exact ⟨_, rfl, .inl rfl⟩
      · exact ⟨_, rfl, .inr ⟨0, rfl, by decide, by decide⟩⟩
      · exact ⟨_, rfl, .inr ⟨1, rfl, by decide, by decide⟩⟩
      · exact ⟨_, rfl, .inr ⟨r1, rfl, by omega, by omega⟩⟩
    refine ⟨p, _, r2, lv, rfl, rfl, sq_of hp5, hlv, (by show 2 ≤ sizeLine; decide), fun t ht => ?_⟩
    have e6 := Ex.new (o := .tup [.str (Str.ofString "take"), lv]) ht
    rcases hl with rfl | ⟨i, rfl, i0, i1⟩
    · exact q _ _ _ ((A5.ex e6).up (by omega)) (k05.trans (Kp.ex e6)) (td2 upd_same (td_lit (by decide) (by decide)) td_non) (rf_take0 z)
    · exact q _ _ _ ((A5.ex e6).up (by omega)) (k05.trans (Kp.ex e6)) (td2 upd_same (td_lit (by decide) (by decide)) (td_int (by omega))) (rf_take z i0)
  have k03 := k02.trans (Kp.ex e3)
  have A3 := A2.ex e3
  refine q_when (et_test (ev_I0 (ev_var rfl) ev_c)) (fun hb H4 e4 => ?_) (fun hb H4 e4 => ?_)
  · refine s_retP ?_
    refine ⟨(by show 1 ≤ sizeLine; decide), fun t ht => ?_⟩
    have e5 := e4.trans (Ex.new (o := .tup [.str (Str.ofString "let")]) ht)
    exact q _ _ _ ((A3.ex e5).up (by omega)) (k03.trans (Kp.ex e5)) (td1 upd_same (td_lit (by decide) (by decide))) (rf_let z)
  have k04 := k03.trans (Kp.ex e4)
  have A4 := A3.ex e4
  refine q_when (et_test (ev_eq (ev_var rfl) ev_c rfl)) (fun hb H5 e5 => ?_) (fun hb H5 e5 => ?_)
  · refine s_retP ?_
    refine ⟨(by show 1 ≤ sizeLine; decide), fun t ht => ?_⟩
    have e6 := e5.trans (Ex.new (o := .tup [.str (Str.ofString "try")]) ht)
    exact q _ _ _ ((A4.ex e6).up (by omega)) (k04.trans (Kp.ex e6)) (td1 upd_same (td_lit (by decide) (by decide))) (rf_try z)
  have k05 := k04.trans (Kp.ex e5)
  have A5 := A4.ex e5
  refine q_when (et_test (ev_eq (ev_var rfl) ev_c rfl)) (fun hb H6 e6 => ?_) (fun hb H6 e6 => ?_)
  · refine s_retP ?_
    refine ⟨_, rfl, (by show 2 ≤ sizeLine; decide), fun t ht => ?_⟩
    have e7 := e6.trans (Ex.new (o := .tup [.str (Str.ofString "goto"), .int at']) ht)
    exact q _ _ _ ((A5.ex e7).up (by omega)) (k05.trans (Kp.ex e7)) (td2 upd_same (td_lit (by decide) (by decide)) (td_int (by omega))) (rf_goto at0 at1)
  have k06 := k05.trans (Kp.ex e6)
  have A6 := A5.ex e6
  refine s_retP ?_
  refine ⟨_, rfl, rfl, _, rfl, ?_⟩
  refine ite2 (fun _ => ?_) (fun _ => ?_)
  · refine ⟨1, rfl, (by show 3 ≤ sizeLine; decide), fun p hp => ?_⟩
    refine take_at rfl (A6.new hp) (by omega) (by decide) (by decide) fun r2 H7 r20 r21 A7 k7 => ?_
    have hp7 : H7 p = some (.lst [.int 0, .int 1, .int (-1)]) := k7 _ _ (A6.fresh hp) (A6.fresh hp) upd_same
    obtain ⟨i, hi, i0, i1⟩ : ∃ i : Int, atI [V.int 0, .int 1, .int (-1)] r2 = some (.int i) ∧ -1 ≤ i ∧ i ≤ 1 := by
      have : r2 = 0 ∨ r2 = 1 ∨ r2 = 2 := by omega
      rcases this with rfl | rfl | rfl
      · exact ⟨_, rfl, by decide, by decide⟩
      · exact ⟨_, rfl, by decide, by decide⟩
      · exact ⟨_, rfl, by decide, by decide⟩
    refine ⟨p, _, r2, _, rfl, rfl, sq_of hp7, hi, _, rfl, (by show 3 ≤ sizeLine; decide), fun t ht => ?_⟩
    have e8 := Ex.new (o := .tup [.str (Str.ofString "if"), .int i, .int at']) ht
    exact q _ _ _ ((A7.ex e8).up (by omega)) (((k06.trans (Kp.ex (Ex.new hp))).trans k7).trans (Kp.ex e8)) (td3 upd_same (td_lit (by decide) (by decide)) (td_int (by omega)) (td_int (by omega))) (rf_if at0 at1)
  · refine take_at rfl A6 (by omega) (by decide) (by decide) fun r2 H7 r20 r21 A7 k7 => ⟨(by show 2 ≤ sizeLine; decide), fun t ht => ?_⟩
    have e8 := Ex.new (o := .tup [.str (Str.ofString "say"), .int r2]) ht
    exact q _ _ _ ((A7.ex e8).up (by omega)) ((k06.trans k7).trans (Kp.ex e8)) (td2 upd_same (td_lit (by decide) (by decide)) (td_int (by omega))) (rf_say z r20 (by omega))
theorem ok__law_program (T : Tp w K mg) : FnOk P w K mg base CX0 3 T.f__law_program T.d__law_program ["_law_box_here"] (spProgram K) := by
  refine T.F__law_program.ok sc__law_program (fun vs H Q E h => ?_) (fun cdv A outer s H vs Q E hr h => ?_)
  · obtain ⟨h, C, rfl, _⟩ := h
    rfl
  obtain ⟨h, C, rfl, A0, hC, q⟩ := h
  refine ⟨_, (pss_cons (ps_par rfl sc__law_program.nd (i := 1) (j := 2) rfl rfl (by decide) rfl rfl (pa_cons (pe_call (ok__law_take T) (hr.mono (by decide)) rfl T.m__law_take T.F__law_take.kp (b__law_take T) .nil pass0 (pa_cons (pv 0) (pa_cons pe_int pa_nil (star1 rfl)) (star1 rfl)) (by decide) (star1 rfl) (starAll rfl)) (pa_cons (pe_ix (ixLK (K := K) rfl) (pe_lst (pa_cons pe_non (pa_cons pe_non (pa_cons pe_int (pa_cons pe_int pa_nil (star1 rfl)) (star1 rfl)) (star1 rfl)) (star1 rfl))) (pe_call (ok__law_take T) (hr.mono (by decide)) rfl T.m__law_take T.F__law_take.kp (b__law_take T) .nil pass0 (pa_cons (pv 0) (pa_cons pe_int pa_nil (star1 rfl)) (star1 rfl)) (by decide) (star1 rfl) (starAll rfl)) (fun _ _ => rfl)) pa_nil (star1 rfl)) (star1 rfl)) (by rfl))
  (pss_cons (ps_if (pt_cmpR op_lt (pv 1) pe_int (nomark _)) (pss_one (ps_ret (pe_tup (pa_cons (pe_tup (pa_cons pe_str (pa_cons (pv 2) pa_nil (star1 rfl)) (star1 rfl))) (pa_cons (pe_tup (pa_cons pe_str pa_nil (star1 rfl))) (pa_cons (pe_tup (pa_cons pe_str (pa_cons pe_int pa_nil (star1 rfl)) (star1 rfl))) pa_nil (star1 rfl)) (star1 rfl)) (star1 rfl))))) pss_nil)
  (pss_cons (ps_if (pt_cmpR op_eq (pv 1) pe_int (nomark _)) (pss_one (ps_ret (pe_tup (pa_cons (pe_tup (pa_cons pe_str (pa_cons (pv 2) pa_nil (star1 rfl)) (star1 rfl))) (pa_cons (pe_tup (pa_cons pe_str (pa_cons pe_int (pa_cons pe_int pa_nil (star1 rfl)) (star1 rfl)) (star1 rfl))) (pa_cons (pe_tup (pa_cons pe_str (pa_cons pe_int pa_nil (star1 rfl)) (star1 rfl))) (pa_cons (pe_tup (pa_cons pe_str pa_nil (star1 rfl))) (pa_cons (pe_tup (pa_cons pe_str pa_nil (star1 rfl))) (pa_cons (pe_tup (pa_cons pe_str pa_nil (star1 rfl))) (pa_cons (pe_tup (pa_cons pe_str (pa_cons pe_int pa_nil (star1 rfl)) (star1 rfl))) pa_nil (star1 rfl)) (star1 rfl)) (star1 rfl)) (star1 rfl)) (star1 rfl)) (star1 rfl)) (star1 rfl))))) pss_nil)
  (pss_cons (ps_set (i := 3) sc__law_program.nd rfl (Or.inr rfl) (pe_op op_add pe_int (pe_call (ok__law_take T) (hr.mono (by decide)) rfl T.m__law_take T.F__law_take.kp (b__law_take T) .nil pass0 (pa_cons (pv 0) (pa_cons pe_int pa_nil (star1 rfl)) (star1 rfl)) (by decide) (star1 rfl) (starAll rfl))))
  (pss_one (ps_ret (pe_callTy call_tuple_of rfl T.z_tuple (by decide +kernel) (pa_cons (pe_lc (own := [("_law_k", 4)]) (g := gName 4) (tt := tYes) rfl sc__law_program.nd (pi_range1 rfl T.z_range (pa_cons (pv 3) pa_nil (star1 rfl))) (blkOk_by (N := N__law_program) (sc := defScope s__law_program) (by decide +kernel)) (fun _ _ _ _ _ => (pg_name (i := 4) sc__law_program.nd rfl (Or.inl rfl))) (fun _ _ _ _ _ => pts_nil) (fun _ _ _ _ _ => (pe_call (ok__law_row T) (hr.mono (by decide)) rfl T.m__law_row T.F__law_row.kp (b__law_row T) .nil pass0 (pa_cons (pv 0) (pa_cons (pv 3) pa_nil (star1 rfl)) (star1 rfl)) (by decide) (star1 rfl) (starAll rfl)))) pa_nil (star1 rfl)) (by decide) (by decide) (star1 rfl) (starAll rfl)))))))), ?_⟩
  refine q_parP ?_
  refine take_at rfl A0 (by omega) (by decide) (by decide) fun wy H1 wy0 wy1 A1 k1 => ?_
  refine ⟨(by show 4 ≤ sizeLine; decide), fun p hp => ?_⟩
  refine take_at rfl (A1.new hp) (by omega) (by decide) (by decide) fun r2 H2 r20 r21 A2 k2 => ?_
  have hp2 : H2 p = some (.lst [.non, .non, .int 0, .int 2]) := k2 _ _ (A1.fresh hp) (A1.fresh hp) upd_same
  obtain ⟨lv, hlv, ld, htd, hrf⟩ : ∃ lv, atI [V.non, .non, .int 0, .int 2] r2 = some lv ∧ ∃ ld : PyData, (∀ H', TD K H' 100 1 0 lv ld) ∧ ∀ k, rowFits (.tuple [.str (Str.ofString "take"), ld]) k = true := by
    have : r2 = 0 ∨ r2 = 1 ∨ r2 = 2 ∨ r2 = 3 := by omega
    rcases this with rfl | rfl | rfl | rfl
    · exact ⟨_, rfl, _, fun _ => td_non, rf_take0⟩
    · exact ⟨_, rfl, _, fun _ => td_non, rf_take0⟩
    · exact ⟨_, rfl, _, fun _ => td_int (by decide), fun k => rf_take k (by decide)⟩
    · exact ⟨_, rfl, _, fun _ => td_int (by decide), fun k => rf_take k (by decide)⟩
  refine ⟨p, _, r2, lv, rfl, rfl, sq_of hp2, hlv, _, _, rfl, ?_⟩
  have k02 : Kp h h H H2 := (k1.trans (Kp.ex (Ex.new hp))).trans k2
  have lit : ∀ {H' : Hp} {s : String}, (s.toList.all fun c => decide (c.toNat < 128)) = true → s.length ≤ 9 → TD K H' 100 1 0 (.str (Str.ofString s)) (.str (Str.ofString s)) := fun a b => td_lit a b
  refine q_when (et_test (ev_I0 (ev_var rfl) ev_c)) (fun hb H3 e3 => ?_) (fun hb H3 e3 => ?_)
  · refine s_retP ?_
    refine ⟨_, rfl, (by show 2 ≤ sizeLine; decide), fun t1 ht1 => ⟨(by show 1 ≤ sizeLine; decide), fun t2 ht2 => ⟨(by show 2 ≤ sizeLine; decide), fun t3 ht3 => ⟨(by show 3 ≤ sizeLine; decide), fun t ht => ?_⟩⟩⟩⟩
    have x1 := Ex.new (o := .tup [.str (Str.ofString "take"), lv]) ht1
    have x2 := Ex.new (o := .tup [.str (Str.ofString "let")]) ht2
    have x3 := Ex.new (o := .tup [.str (Str.ofString "goto"), .int 0]) ht3
    have x4 := Ex.new (o := .tup [.ref t1, .ref t2, .ref t3]) ht
    have d1 := td2 (K := K) (x4 _ _ (x3 _ _ (x2 _ _ upd_same))) (lit (s := "take") (by decide) (by decide)) (htd _)
    have d2 := td1 (K := K) (x4 _ _ (x3 _ _ upd_same)) (lit (s := "let") (by decide) (by decide))
    have d3 := td2 (K := K) (x4 _ _ upd_same) (lit (s := "goto") (by decide) (by decide)) (td_int (i := 0) (by decide))
    have xx := ((x1.trans x2).trans x3).trans x4
    refine q _ _ _ ((A2.ex (e3.trans xx)).up (by omega)) (k02.trans (Kp.ex (e3.trans xx))) ((TDs.tup (n := 7) (.cons d1 (.cons d2 (.cons d3 .nil))) (st_of upd_same) (by show 3 ≤ 7; decide)).up (by decide) (by decide) (by decide)) ?_
    unfold progFits
    dsimp only
    simp only [List.all_cons, List.all_nil, hrf, rf_let, Bool.true_and, Bool.and_true]
    exact rf_goto (by decide) (by show (0 : Int) < ((3 : Nat) : Int); decide)
  refine q_when (et_test (ev_eq (ev_var rfl) ev_c rfl)) (fun hb H4 e4 => ?_) (fun hb H4 e4 => ?_)
  · refine s_retP ?_
    have e34 := e3.trans e4
    refine ⟨_, rfl, (by show 2 ≤ sizeLine; decide), fun t1 ht1 => ⟨(by show 3 ≤ sizeLine; decide), fun t2 ht2 => ⟨(by show 2 ≤ sizeLine; decide), fun t3 ht3 => ⟨(by show 1 ≤ sizeLine; decide), fun t4 ht4 => ⟨(by show 1 ≤ sizeLine; decide), fun t5 ht5 => ⟨(by show 1 ≤ sizeLine; decide), fun t6 ht6 => ⟨(by show 2 ≤ sizeLine; decide), fun t7 ht7 => ⟨(by show 7 ≤ sizeLine; decide), fun t ht => ?_⟩⟩⟩⟩⟩⟩⟩⟩
    have x1 := Ex.new (o := .tup [.str (Str.ofString "take"), lv]) ht1
    have x2 := Ex.new (o := .tup [.str (Str.ofString "if"), .int 0, .int 0]) ht2
    have x3 := Ex.new (o := .tup [.str (Str.ofString "say"), .int 7]) ht3
    have x4 := Ex.new (o := .tup [.str (Str.ofString "let")]) ht4
    have x5 := Ex.new (o := .tup [.str (Str.ofString "try")]) ht5
    have x6 := Ex.new (o := .tup [.str (Str.ofString "let")]) ht6
    have x7 := Ex.new (o := .tup [.str (Str.ofString "goto"), .int 0]) ht7
    have x8 := Ex.new (o := .tup [.ref t1, .ref t2, .ref t3, .ref t4, .ref t5, .ref t6, .ref t7]) ht
    have d7 := td2 (K := K) (x8 _ _ upd_same) (lit (s := "goto") (by decide) (by decide)) (td_int (i := 0) (by decide))
    have d6 := td1 (K := K) (x8 _ _ (x7 _ _ upd_same)) (lit (s := "let") (by decide) (by decide))
    have d5 := td1 (K := K) (x8 _ _ (x7 _ _ (x6 _ _ upd_same))) (lit (s := "try") (by decide) (by decide))
    have d4 := td1 (K := K) (x8 _ _ (x7 _ _ (x6 _ _ (x5 _ _ upd_same)))) (lit (s := "let") (by decide) (by decide))
    have d3 := td2 (K := K) (x8 _ _ (x7 _ _ (x6 _ _ (x5 _ _ (x4 _ _ upd_same))))) (lit (s := "say") (by decide) (by decide)) (td_int (i := 7) (by decide))
    have d2 := td3 (K := K) (x8 _ _ (x7 _ _ (x6 _ _ (x5 _ _ (x4 _ _ (x3 _ _ upd_same)))))) (lit (s := "if") (by decide) (by decide)) (td_int (i := 0) (by decide)) (td_int (i := 0) (by decide))
    have d1 := td2 (K := K) (x8 _ _ (x7 _ _ (x6 _ _ (x5 _ _ (x4 _ _ (x3 _ _ (x2 _ _ upd_same))))))) (lit (s := "take") (by decide) (by decide)) (htd _)
    have xx := ((((((x1.trans x2).trans x3).trans x4).trans x5).trans x6).trans x7).trans x8
    refine q _ _ _ ((A2.ex (e34.trans xx)).up (by omega)) (k02.trans (Kp.ex (e34.trans xx))) ((TDs.tup (n := 7) (.cons d1 (.cons d2 (.cons d3 (.cons d4 (.cons d5 (.cons d6 (.cons d7 .nil))))))) (st_of upd_same) (by show 7 ≤ 7; decide)).up (by decide) (by decide) (by decide)) ?_
    unfold progFits
    dsimp only
    have l7 : (([.tuple [.str (Str.ofString "take"), ld], .tuple [.str (Str.ofString "if"), .int 0, .int 0], .tuple [.str (Str.ofString "say"), .int 7], .tuple [.str (Str.ofString "let")], .tuple [.str (Str.ofString "try")], .tuple [.str (Str.ofString "let")], .tuple [.str (Str.ofString "goto"), .int 0]] : List PyData).length : Int) = 7 := rfl
    rw [l7]
    simp only [List.all_cons, List.all_nil, hrf, rf_let, rf_try, rf_say (i := 7) 7 (by decide) (by decide), rf_goto (i := 0) (k := 7) (by decide) (by decide), rf_if (m := 0) (i := 0) (k := 7) (by decide) (by decide), Bool.true_and]
  have A4 := A2.ex (e3.trans e4)
  have k04 := k02.trans (Kp.ex (e3.trans e4))
  refine q_asgP ?_
  refine take_at rfl A4 (by omega) (by decide) (by decide) fun r5 H5 r50 r51 A5 k5 => ⟨1, r5, rfl, rfl, ?_⟩
  have k05 := k04.trans k5
  refine s_retP ?_
  refine ⟨_, rfl, 1 + r5, rfl, by omega, by omega, fun D hD => ?_⟩
  have dh := A5.fresh hD
  have HD : H D = none := by
    cases y : H D with
    | none => rfl
    | some o => rw [k05 D o dh dh y] at hD; cases hD
  refine lc_range (lo := 0) (n := (1 + r5).toNat) (fun i H' => Bx H' h (C + 4 + 4 * i) ∧ Kp h h H H' ∧ ∃ xs ds, H' D = some (.lst xs) ∧ TDs K H' 310 4 1 xs ds ∧ ds.length = i ∧ ∀ d ∈ ds, rowFits d (1 + r5) = true) ?_ ?_ ?_
  · exact ⟨(A5.new hD).up (by omega), k05.trans (Kp.ex (Ex.new hD)), [], [], upd_same, .nil, rfl, fun d hd => by cases hd⟩
  · intro i H6 hi hP
    obtain ⟨A6, k6, xs, ds, hacc, tds, hl, hf⟩ := hP
    refine ⟨rfl, tYesQ ?_⟩
    refine ⟨_, rfl, _, rfl, h, 1 + r5, _, rfl, A6, by omega, by omega, by omega, fun v d H7 A7 k7 td rf => ?_⟩
    have hacc7 := k7 _ _ dh dh hacc
    have xl := tds.len
    refine ⟨xs, hacc7, sz_lt (by omega), ?_, ?_, xs ++ [v], ds ++ [d], upd_same, ((tds.st ((ST.bx A6 k7).trans (ST.lst hacc7))).one (td.st (ST.lst hacc7))), by rw [List.length_append, hl]; rfl, fun d' hd' => ?_⟩
    · obtain ⟨x1, x2, x3, B⟩ := A7
      exact ⟨x1, x2, x3, by rw [upd_ne (Ne.symm dh)]; exact B.hh, B.n0, B.m0, B.m1, B.c0, by have := B.c1; omega⟩
    · intro a o u1 u2 ha
      have : a ≠ D := fun y => by
        subst y
        rw [HD] at ha
        cases ha
      rw [upd_ne this]
      exact k7 a o u1 u2 (k6 a o u1 u2 ha)
    · rcases List.mem_append.mp hd' with z | z
      · exact hf d' z
      · rw [List.mem_singleton.mp z]
        exact rf
  intro H6 hP
  obtain ⟨A6, k6, xs, ds, hacc, tds, hl, hf⟩ := hP
  refine ⟨D, xs, rfl, Or.inl ⟨sq_of hacc, fun t ht => ?_⟩⟩
  have e7 := Ex.new (o := .tup xs) ht
  refine q _ _ _ ((A6.ex e7).up (by omega)) (k6.trans (Kp.ex e7)) ((TDs.tup (n := 7) (tds.st (ST.ex e7)) (st_of upd_same) (by omega)).up (by decide) (by decide) (by decide)) ?_
  unfold progFits
  dsimp only
  rw [List.all_eq_true]
  intro d hd
  have : ((ds.length : Nat) : Int) = 1 + r5 := by omega
  rw [this]
  exact hf d hd
end

def spLBookH (K : PySem.W.Frag) : Sp := fun vs H Q _ => ∃ (h : Addr) (v : V) (n : Str) (b : Int) (ms : List Tr) (C : Nat), vs = [.ref h, v] ∧ Bx H h C ∧ C ≤ 80000 ∧ TrV H v (.grp n b ms) ∧ (Tr.grp n b ms).deep ≤ 4 ∧ (Tr.grp n b ms).size ≤ 20 ∧ (∀ x ∈ (Tr.grp n b ms).nms, nameOk x) ∧
  ∀ (a : Addr) (o : Obj) xs ds ys H', Bx H' h (C + 800) → Kp h h H H' → H' a = some (.frz o (.tup xs)) → o.dict = none → TDs K H' 4410 61 3 xs ds → ds.length ≤ 20 → ys.Perm (handsOf (.grp n b ms)) → PyProof.Rows.sortedS ys = true → bookB ys (.tuple ds) = true → Q (.ref a) H'
section
variable {P : Program} {w : World} {K : PySem.W.Frag} {mg : Str → Option Value} {base : Heap}
theorem td_name {H : Hp} {x : Str} (h : nameOk x) : TD K H 100 1 0 (.str x) (.str x) := td_str (fun c hc => by have := h.2.2 c hc; omega) (by have := h.2.1; omega)
theorem ok__law_book (T : Tp w K mg) : FnOk P w K mg base CX0 7 T.f__law_book T.d__law_book ["_law_box_here", "_law_plan_here"] (spLBookH K) := by
  refine T.F__law_book.ok sc__law_book (fun vs H Q E h => ?_) (fun cdv A outer s H vs Q E hr h => ?_)
  · obtain ⟨h, v, n, b, ms, C, rfl, _⟩ := h
    rfl
  obtain ⟨h, v, n, b, ms, C, rfl, A0, hC, tv, hdp, hsz, hnm, q⟩ := h
  refine ⟨_, (pss_one (ps_ret (pe_callTy (call_tupF (K := K) rfl) rfl T.z_tuple (by decide +kernel) (pa_cons (pe_lc (own := [("_law_name", 2)]) (g := gName 2) (tt := tYes) rfl sc__law_book.nd (plLK (K := K) rfl (pe_callB cr_sortedS rfl T.z_sorted (by decide +kernel) (pa_cons (pe_call (ok__law_hands T) (hr.mono (by decide)) rfl T.m__law_hands T.F__law_hands.kp (b__law_hands T) .nil pass0 (pa_cons (pv 1) pa_nil (star1 rfl)) (by decide) (star1 rfl) (starAll rfl)) pa_nil (star1 rfl)) (by decide) (by decide) (star1 rfl) (starAll rfl))) (blkOk_by (N := N__law_book) (sc := defScope s__law_book) (by decide +kernel)) (fun _ _ _ _ _ => (pg_name (i := 2) sc__law_book.nd rfl (Or.inl rfl))) (fun _ _ _ _ _ => pts_nil) (fun _ _ _ _ _ => (pe_tup (pa_cons (pv 2) (pa_cons (pe_call (ok__law_program T) (hr.mono (by decide)) rfl T.m__law_program T.F__law_program.kp (b__law_program T) .nil pass0 (pa_cons (pv 0) pa_nil (star1 rfl)) (by decide) (star1 rfl) (starAll rfl)) pa_nil (star1 rfl)) (star1 rfl))))) pa_nil (star1 rfl)) (by decide) (by decide) (star1 rfl) (starAll rfl)))), ?_⟩
  refine s_retP ?_
  have hl : (handsOf (.grp n b ms)).length ≤ 20 := by
    have := names_len (.grp n b ms)
    rw [List.length_append] at this
    omega
  refine ⟨_, rfl, v, n, b, ms, rfl, tv, hdp, by omega, fun r H1 e1 hr1 h1 => ⟨r, handsOf (.grp n b ms), rfl, sq_of h1, by omega, fun ys p hp hs hp0 => ?_⟩⟩
  have e2 := Ex.new (o := .lst (ys.map V.str)) hp0
  have h2 : upd H1 p (.lst (ys.map V.str)) p = some (.lst (ys.map V.str)) := upd_same
  have A2 := A0.ex (e1.trans e2)
  have k02 : Kp h h H (upd H1 p (.lst (ys.map V.str))) := Kp.ex (e1.trans e2)
  have ph : p ≠ h := (A0.ex e1).fresh hp0
  generalize upd H1 p (.lst (ys.map V.str)) = H2 at h2 A2 k02
  have yl : ys.length ≤ 20 := by rw [hp.length_eq]; exact hl
  have yn : ∀ y ∈ ys, nameOk y := fun y hy => hnm y (hands_in _ y (hp.mem_iff.mp hy))
  refine ⟨p, rfl, ⟨_, sq_of h2⟩, fun D hD => ?_⟩
  have dh := A2.fresh hD
  have dp : D ≠ p := fun z => by
    subst z
    rw [h2] at hD
    cases hD
  have HD : H D = none := by
    cases y : H D with
    | none => rfl
    | some o => rw [k02 D o dh dh y] at hD; cases hD
  refine lc_list (K := K) (a := p) (xs := ys.map V.str) (fun i H' => Bx H' h (C + 40 * i) ∧ Kp h h H H' ∧ H' p = some (.lst (ys.map V.str)) ∧ ∃ xs ds, H' D = some (.lst xs) ∧ TDs K H' 4410 61 3 xs ds ∧ (∀ d ∈ ds, pairB d = true) ∧ ds.map pairName = ys.take i) ⟨A2.new hD, k02.trans (Kp.ex (Ex.new hD)), (Ex.new hD) _ _ h2, [], [], upd_same, .nil, (fun d hd => by cases hd), rfl⟩ (fun i H' _ hP => sq_of hP.2.2.1) ?_ ?_
  · intro i x H3 hx hP
    obtain ⟨A3, k3, h3, xs, ds, hacc, tds, hpb, hnmE⟩ := hP
    obtain ⟨y, hy, rfl⟩ : ∃ y, ys[i]? = some y ∧ x = .str y := by
      rw [List.getElem?_map] at hx
      cases hz : ys[i]? with
      | none => rw [hz] at hx; cases hx
      | some y => rw [hz] at hx; cases hx; exact ⟨y, rfl, rfl⟩
    have hi := (List.getElem?_eq_some_iff.mp hy).1
    have dl : ds.length = i := by
      have := congrArg List.length hnmE
      rw [List.length_map, List.length_take] at this
      omega
    refine ⟨rfl, tYesQ ?_⟩
    refine ⟨_, rfl, _, rfl, h, _, rfl, A3, by omega, fun pv d H4 A4 k4 td pf => ⟨(by show 2 ≤ sizeLine; decide), fun t ht => ?_⟩⟩
    have e5 := Ex.new (o := .tup [.str y, pv]) ht
    have acc5 := e5 _ _ (k4 _ _ dh dh hacc)
    have stA : ST K H3 (upd H4 t (.tup [.str y, pv])) := (ST.bx A3 k4).trans (ST.ex e5)
    have pd : TD K (upd H4 t (.tup [.str y, pv])) 4410 61 3 (.ref t) (.tuple [.str y, d]) := (TDs.tup (n := 2) (.cons ((td_name (yn y (List.mem_of_getElem? hy))).up (by decide) (by decide) (by decide)) (.cons (td.st (ST.ex e5)) .nil)) (st_of upd_same) (by show 2 ≤ 2; decide)).up (by decide) (by decide) (by decide)
    have xl := tds.len
    have A5 := A4.ex e5
    have h5 := e5 _ _ (k4 _ _ ph ph h3)
    have k5 := k4.trans (Kp.ex e5)
    generalize upd H4 t (.tup [.str y, pv]) = H5 at acc5 stA pd A5 h5 k5
    refine ⟨xs, acc5, sz_lt (by omega), ?_, ?_, ?_, xs ++ [.ref t], ds ++ [.tuple [.str y, d]], upd_same, (tds.st (stA.trans (ST.lst acc5))).one (pd.st (ST.lst acc5)), fun d' hd' => ?_, ?_⟩
    · obtain ⟨x1, x2, x3, B⟩ := A5
      exact ⟨x1, x2, x3, by rw [upd_ne (Ne.symm dh)]; exact B.hh, B.n0, B.m0, B.m1, B.c0, by have := B.c1; omega⟩
    · intro a o u1 u2 ha
      have : a ≠ D := fun z => by
        subst z
        rw [HD] at ha
        cases ha
      rw [upd_ne this]
      exact k5 a o u1 u2 (k3 a o u1 u2 ha)
    · rw [upd_ne (Ne.symm dp)]
      exact h5
    · rcases List.mem_append.mp hd' with z | z
      · exact hpb d' z
      · rw [List.mem_singleton.mp z]
        exact pf
    · rw [List.map_append, hnmE, List.take_succ_eq_append_getElem hi]
      congr 1
      have := (List.getElem?_eq_some_iff.mp hy).2
      rw [this]
      rfl
  · intro H3 hP
    obtain ⟨A3, k3, h3, xs, ds, hacc, tds, hpb, hnmE⟩ := hP
    rw [List.length_map, List.take_length] at hnmE
    rw [List.length_map] at A3
    have dl : ds.length ≤ 20 := by
      have := congrArg List.length hnmE
      rw [List.length_map] at this
      omega
    refine ⟨D, xs, rfl, sq_of hacc, fun t o ht ho => ?_⟩
    have e4 := Ex.new (o := .frz o (.tup xs)) ht
    refine q t o xs ds ys _ ((A3.ex e4).up (by omega)) (k3.trans (Kp.ex e4)) upd_same ho (tds.st (ST.ex e4)) dl hp hs ?_
    unfold bookB
    dsimp only
    rw [decide_eq_true hnmE, Bool.and_true, List.all_eq_true]
    exact hpb
end

/-! ### the house: dicts of names with data of tuples -/
def KD (K : PySem.W.Frag) (H : Hp) (kv : Key × V) (x : Str × PyData) : Prop := kv.1 = .inr x.1 ∧ TD K H 1000 10 3 kv.2 x.2
def DD (K : PySem.W.Frag) (H : Hp) (d : Addr) (xs : List (Str × PyData)) : Prop := ∃ kvs, H d = some (.dK kvs) ∧ Paired (KD K H) kvs xs ∧ (xs.map (·.1)).Nodup
theorem pd_st {K : PySem.W.Frag} {H H' : Hp} (s : ST K H H') : ∀ {kvs : List (Key × V)} {xs : List (Str × PyData)}, Paired (KD K H) kvs xs → Paired (KD K H') kvs xs
  | _, _, .nil => .nil
  | _, _, .cons h t => .cons ⟨h.1, h.2.st s⟩ (pd_st s t)
theorem pd_len {K : PySem.W.Frag} {H : Hp} : ∀ {kvs : List (Key × V)} {xs : List (Str × PyData)}, Paired (KD K H) kvs xs → kvs.length = xs.length
  | _, _, .nil => rfl
  | _, _, .cons _ t => by rw [List.length_cons, List.length_cons, pd_len t]
theorem pd_get {K : PySem.W.Frag} {H : Hp} : ∀ {kvs : List (Key × V)} {xs : List (Str × PyData)} {i : Nat} {kv : Key × V}, Paired (KD K H) kvs xs → kvs[i]? = some kv → ∃ x, xs[i]? = some x ∧ KD K H kv x
  | _, _, _, _, .nil, e => by simp at e
  | _, _, 0, _, .cons h _, e => by
    simp at e
    subst e
    exact ⟨_, rfl, h⟩
  | _, _, i + 1, _, .cons _ t, e => by
    obtain ⟨x, a, b⟩ := pd_get t (by simpa using e)
    exact ⟨x, by simpa using a, b⟩
/-- the first of that name -/
def atN (xs : List (Str × PyData)) (n : Str) : Option PyData := (xs.find? fun x => decide (x.1 = n)).map (·.2)
theorem pd_val {K : PySem.W.Frag} {H : Hp} (n : Str) : ∀ {kvs : List (Key × V)} {xs : List (Str × PyData)}, Paired (KD K H) kvs xs →
    (valV kvs (.inr n) = none ∧ atN xs n = none) ∨ ∃ v d, valV kvs (.inr n) = some v ∧ atN xs n = some d ∧ TD K H 1000 10 3 v d
  | _, _, .nil => Or.inl ⟨rfl, rfl⟩
  | _, _, .cons (a := kv) (b := x) h t => by
    by_cases e : x.1 = n
    · refine Or.inr ⟨kv.2, x.2, valV_pos (h.1.trans (by rw [e])), ?_, h.2⟩
      simp [atN, e]
    · have ne : ¬ kv.1 = .inr n := fun z => e (by rw [h.1] at z; exact Sum.inr.inj z)
      rw [valV_neg ne]
      have z := pd_val n t
      simp only [atN, List.find?_cons, decide_eq_false e] at z ⊢
      exact z
theorem DD.ex {K : PySem.W.Frag} {H H' : Hp} {d : Addr} {xs : List (Str × PyData)} (h : DD K H d xs) (e : Ex H H') : DD K H' d xs := by
  obtain ⟨kvs, h1, h2, h3⟩ := h
  exact ⟨kvs, e _ _ h1, pd_st (ST.ex e) h2, h3⟩
theorem pd_at {K : PySem.W.Frag} {H : Hp} : ∀ {kvs : List (Key × V)} {xs : List (Str × PyData)} {i : Nat} {n : Str} {v : V}, Paired (KD K H) kvs xs → (xs.map (·.1)).Nodup → kvs[i]? = some (.inr n, v) → valV kvs (.inr n) = some v
  | _, _, _, _, _, .nil, _, e => by simp at e
  | _, _, 0, _, _, .cons h _, _, e => by
    simp at e
    subst e
    exact valV_pos rfl
  | _, _, i + 1, n, v, .cons (a := kv) (b := x) h t, nd, e => by
    rw [List.map_cons, List.nodup_cons] at nd
    have e' : _ := (by simpa using e : _)
    obtain ⟨y, hy, z⟩ := pd_get t e'
    have ne : ¬ kv.1 = .inr n := fun q => nd.1 (by
      rw [h.1] at q
      have : x.1 = y.1 := (Sum.inr.inj q).trans (Sum.inr.inj z.1)
      rw [this]
      exact List.mem_map_of_mem (List.mem_of_getElem? hy))
    rw [valV_neg ne]
    exact pd_at t nd.2 e'
/-- a house that has these hands and groups -/
structure HsAt (K : PySem.W.Frag) (C : Addr) (H : Hp) (p : Addr) (hs gs : List (Str × PyData)) : Prop where
  ob : ∃ dx fs hd gd, H p = some (.ins C dx fs) ∧ fs.lookup ("hands" : Str) = some (.ref hd) ∧ fs.lookup ("groups" : Str) = some (.ref gd) ∧
    fs.lookup ("hand" : Str) = none ∧ fs.lookup ("group" : Str) = none ∧ fs.lookup ("within" : Str) = none ∧ DD K H hd hs ∧ DD K H gd gs
theorem HsAt.ex {K : PySem.W.Frag} {C p : Addr} {H H' : Hp} {hs gs : List (Str × PyData)} (h : HsAt K C H p hs gs) (e : Ex H H') : HsAt K C H' p hs gs := by
  obtain ⟨dx, fs, hd, gd, a, b, c, d, f, g, i, j⟩ := h.ob
  exact ⟨⟨dx, fs, hd, gd, e _ _ a, b, c, d, f, g, i.ex e, j.ex e⟩⟩
def spKnown (K : PySem.W.Frag) : Sp := fun vs H Q _ => ∃ (x : Str) (d : Addr) (xs : List (Str × PyData)), vs = [.str x, .ref d] ∧ DD K H d xs ∧ ∀ H', Ex H H' → Q (.bl (atN xs x).isSome) H'
def spOf (K : PySem.W.Frag) (C : Addr) (f : List (Str × PyData) → List (Str × PyData) → List (Str × PyData)) : Sp := fun vs H Q _ => ∃ (p : Addr) (x : Str) (hs gs : List (Str × PyData)) (d : PyData), vs = [.ref p, .str x] ∧ HsAt K C H p hs gs ∧ atN (f hs gs) x = some d ∧
  ∀ v H', Ex H H' → TD K H' 1000 10 3 v d → Q v H'
theorem pe_fldK {X : Cx} {K : PySem.W.Frag} (hK : X.K = K) {e : Expr} {ta : TE} {f : Str} {pos : Pos} (he : PE X e ta) (hb : attributeBase e f X.env (eval e X.env) = eval e X.env) : PE X (.Attribute e f pos) (tFld K ta f) := by
  subst hK
  exact pe_fld he hb
theorem nosl {i : Expr} (h : ∀ ov iv, subscripted i false ov iv = operate [ov, iv] (getItem ov iv)) : NoSl i := h
section
variable {P : Program} {w : World} {K : PySem.W.Frag} {mg : Str → Option Value} {base : Heap}
theorem ok_is_known (T : Tp w K mg) : FnOk P w K mg base CX0 1 T.f_is_known T.d_is_known ["thing", "names"] (spKnown K) := by
  refine T.F_is_known.ok sc_is_known (fun vs H Q E h => ?_) (fun cdv A outer s H vs Q E hr h => ?_)
  · obtain ⟨x, d, xs, rfl, _⟩ := h
    rfl
  obtain ⟨x, d, xs, rfl, hd, q⟩ := h
  refine ⟨_, (pss_one (ps_ret (pe_and (pe_callB (isiK (K := K) rfl) rfl T.z_isinstance (by decide +kernel) (pa_cons (pv 0) (pa_cons (pe_bltn (v := .ty "str") rfl T.z_str (by decide +kernel) rfl) pa_nil (star1 rfl)) (star1 rfl)) (by decide) (by decide) (star1 rfl) (starAll rfl)) (pe_one (pe_cmp (pc_din (hu_of hr) (pv 0) (pv 1))))))), ?_⟩
  refine s_ret (ev_is (ev_andV (a := true) (b := (atN xs x).isSome) (ev_isX (ev_var rfl) (.str x) (kt_str _)) fun _ => ?_) ?_) q
  · intro H1 e1 Q' q'
    obtain ⟨kvs, h1, h2, _⟩ := hd.ex e1
    refine ⟨_, rfl, _, rfl, d, _, rfl, DGet.k (k := Sum.inr x) h1, ?_⟩
    have := pd_val x h2
    rcases this with ⟨a, b⟩ | ⟨v, dd, a, b, _⟩
    · rw [a]
      rw [b] at q'
      exact q' H1 (Ex.refl H1)
    · rw [a]
      rw [b] at q'
      exact q' H1 (Ex.refl H1)
  · simp
theorem ok_House_hand (T : Tp w K mg) : FnOk P w K mg base CX0 2 T.f_House_hand T.d_House_hand ["self", "name"] (spOf K T.C_House fun hs _ => hs) := by
  refine T.F_House_hand.ok sc_House_hand (fun vs H Q E h => ?_) (fun cdv A outer s H vs Q E hr h => ?_)
  · obtain ⟨p, x, hs, gs, d, rfl, _⟩ := h
    rfl
  obtain ⟨p, x, hs, gs, d, rfl, ho, hd, q⟩ := h
  refine ⟨_, (pss_cons (ps_if (pt_not (pt_val (pe_call (ok_is_known T) (hr.mono (by decide)) rfl T.m_is_known T.F_is_known.kp (b_is_known T) .nil pass0 (pa_cons (pv 1) (pa_cons (pe_fldK (K := K) rfl (pv 0) rfl) pa_nil (star1 rfl)) (star1 rfl)) (by decide) (star1 rfl) (starAll rfl)))) (pss_one ps_never) pss_nil)
  (pss_one (ps_ret (pe_dget (hu_of hr) (pe_fldK (K := K) rfl (pv 0) rfl) (pv 1) (nosl fun _ _ => rfl))))), ?_⟩
  obtain ⟨dx, fs, hda, gd, a, b, c, _, _, _, i, j⟩ := ho.ob
  refine ⟨_, rfl, _, rfl, p, T.C_House, dx, fs, _, rfl, a, T.cl_House, T.na_House_hands, b, x, hda, hs, rfl, i, fun H1 e1 => ⟨_, rfl, ?_⟩⟩
  rw [hd]
  refine iteF ?_
  obtain ⟨kvs, h1, h2, _⟩ := i.ex e1
  refine ⟨_, rfl, p, T.C_House, dx, fs, _, rfl, e1 _ _ a, T.cl_House, T.na_House_hands, b, _, rfl, hda, ?_⟩
  rcases pd_val x h2 with ⟨a', b'⟩ | ⟨v, dd, a', b', td⟩
  · rw [hd] at b'
    cases b'
  · rw [hd] at b'
    cases b'
    exact ⟨v, rfl, by rw [← a']; exact DGet.k (k := Sum.inr x) h1, q v H1 e1 td⟩
theorem ok_House_group (T : Tp w K mg) : FnOk P w K mg base CX0 2 T.f_House_group T.d_House_group ["self", "name"] (spOf K T.C_House fun _ gs => gs) := by
  refine T.F_House_group.ok sc_House_group (fun vs H Q E h => ?_) (fun cdv A outer s H vs Q E hr h => ?_)
  · obtain ⟨p, x, hs, gs, d, rfl, _⟩ := h
    rfl
  obtain ⟨p, x, hs, gs, d, rfl, ho, hd, q⟩ := h
  refine ⟨_, (pss_cons (ps_if (pt_not (pt_val (pe_call (ok_is_known T) (hr.mono (by decide)) rfl T.m_is_known T.F_is_known.kp (b_is_known T) .nil pass0 (pa_cons (pv 1) (pa_cons (pe_fldK (K := K) rfl (pv 0) rfl) pa_nil (star1 rfl)) (star1 rfl)) (by decide) (star1 rfl) (starAll rfl)))) (pss_one ps_never) pss_nil)
  (pss_one (ps_ret (pe_dget (hu_of hr) (pe_fldK (K := K) rfl (pv 0) rfl) (pv 1) (nosl fun _ _ => rfl))))), ?_⟩
  obtain ⟨dx, fs, hda, gd, a, b, c, _, _, _, i, j⟩ := ho.ob
  refine ⟨_, rfl, _, rfl, p, T.C_House, dx, fs, _, rfl, a, T.cl_House, T.na_House_groups, c, x, gd, gs, rfl, j, fun H1 e1 => ⟨_, rfl, ?_⟩⟩
  rw [hd]
  refine iteF ?_
  obtain ⟨kvs, h1, h2, _⟩ := j.ex e1
  refine ⟨_, rfl, p, T.C_House, dx, fs, _, rfl, e1 _ _ a, T.cl_House, T.na_House_groups, c, _, rfl, gd, ?_⟩
  rcases pd_val x h2 with ⟨a', b'⟩ | ⟨v, dd, a', b', td⟩
  · rw [hd] at b'
    cases b'
  · rw [hd] at b'
    cases b'
    exact ⟨v, rfl, by rw [← a']; exact DGet.k (k := Sum.inr x) h1, q v H1 e1 td⟩
end

/-! ### who is within, how many -/
def howOf : PyData → Str
  | .tuple [_, _, .str h, _] => h
  | _ => "out"
def isHandD : PyData → Bool
  | .tuple [.int _, .int _, .str _, _] => true
  | _ => false
theorem ST.dk {K : PySem.W.Frag} {H : Hp} {p : Addr} {ys : List (Key × V)} {o : HO} (h : H p = some (.dK ys)) : ST K H (upd H p o) := fun a xs s => by
  have no : ∀ {u : HO}, H a = some u → (∀ zs, u ≠ .dK zs) → upd H p o a = some u := fun {u} z n => by
    rw [upd_ne (fun y => by subst y; rw [h] at z; cases z; exact n _ rfl)]
    exact z
  rcases s with (z | ⟨ob, z⟩) | z
  · exact Or.inl (Or.inl (no z fun _ y => by cases y))
  · exact Or.inl (Or.inr ⟨ob, no z fun _ y => by cases y⟩)
  · exact Or.inr z
theorem hand_at {K : PySem.W.Frag} {H : Hp} {v : V} {d : PyData} (h : Dy K H v d) (hd : isHandD d = true) : ∃ a r l w, v = .ref a ∧ SqT K H a [.int r, .int l, .str (howOf d), w] := by
  cases h with
  | tup hs ha =>
    rename_i a xs ds
    cases ha with
    | nil => cases hd
    | cons d1 ha =>
      cases ha with
      | nil => cases d1 <;> cases hd
      | cons d2 ha =>
        cases ha with
        | nil => cases d1 <;> cases d2 <;> cases hd
        | cons d3 ha =>
          cases ha with
          | nil => cases d1 <;> cases d2 <;> cases d3 <;> cases hd
          | cons d4 ha =>
            cases ha with
            | cons _ _ => cases d1 <;> cases d2 <;> cases d3 <;> cases hd
            | nil =>
              cases d1 with
              | int r =>
                cases d2 with
                | int l =>
                  cases d3 with
                  | str x => exact ⟨a, r, l, _, rfl, hs⟩
                  | _ => cases hd
                | _ => cases hd
              | _ => cases hd
  | _ => cases hd
def firstIn (xs : List (Str × PyData)) : V := match xs.find? fun x => decide (howOf x.2 = "within") with
  | some x => .str x.1
  | none => .non
def spWi (K : PySem.W.Frag) : Sp := fun vs H Q _ => ∃ (d : Addr) (xs : List (Str × PyData)), vs = [.ref d] ∧ DD K H d xs ∧ (∀ x ∈ xs, isHandD x.2 = true) ∧ ∀ H', Ex H H' → Q (firstIn xs) H'
def spWithin (K : PySem.W.Frag) (C : Addr) : Sp := fun vs H Q _ => ∃ (p : Addr) (hs gs : List (Str × PyData)), vs = [.ref p] ∧ HsAt K C H p hs gs ∧ (∀ x ∈ hs, isHandD x.2 = true) ∧ ∀ H', Ex H H' → Q (firstIn hs) H'
def spLen (K : PySem.W.Frag) (C : Addr) : Sp := fun vs H Q _ => ∃ (p : Addr) (hs gs : List (Str × PyData)), vs = [.ref p] ∧ HsAt K C H p hs gs ∧ (∀ x ∈ hs, isHandD x.2 = true) ∧ hs.length ≤ 1000 ∧ ∀ H', Ex H H' → Q (.int ((hs.filter fun x => !decide (howOf x.2 = "out")).length : Nat)) H'
theorem find_take {α : Type} (f : α → Bool) : ∀ (xs : List α) (i : Nat) (x : α), xs[i]? = some x → f x = true → (∀ j y, j < i → xs[j]? = some y → f y = false) → xs.find? f = some x
  | [], i, x, h, _, _ => by simp at h
  | y :: ys, 0, x, h, hx, _ => by
    cases Option.some.inj h
    rw [List.find?_cons, hx]
  | y :: ys, i + 1, x, h, hx, hn => by
    rw [List.find?_cons, hn 0 y (Nat.succ_pos i) rfl]
    exact find_take f ys i x (by simpa using h) hx fun j z hj hz => hn (j + 1) z (Nat.succ_lt_succ hj) (by simpa using hz)
theorem find_no {α : Type} (f : α → Bool) : ∀ (xs : List α), (∀ j y, j < xs.length → xs[j]? = some y → f y = false) → xs.find? f = none
  | [], _ => rfl
  | y :: ys, hn => by
    rw [List.find?_cons, hn 0 y (Nat.succ_pos _) rfl]
    exact find_no f ys fun j z hj hz => hn (j + 1) z (Nat.succ_lt_succ hj) (by simpa using hz)
section
variable {P : Program} {w : World} {K : PySem.W.Frag} {mg : Str → Option Value} {base : Heap}
theorem ok_within_of (T : Tp w K mg) : FnOk P w K mg base CX0 1 T.f_within_of T.d_within_of ["hands"] (spWi K) := by
  refine T.F_within_of.ok sc_within_of (fun vs H Q E h => ?_) (fun cdv A outer s H vs Q E hr h => ?_)
  · obtain ⟨d, xs, rfl, _⟩ := h
    rfl
  obtain ⟨d, xs, rfl, ⟨kvs, h1, h2, hnd⟩, hx, q⟩ := h
  refine ⟨_, (pss_cons (ps_lock (ps_for PassesOwn.never rfl (pi_keys (pv 0)) (pg_name (i := 1) sc_within_of.nd rfl (Or.inl rfl)) (pss_cons (ps_asg (pe_dget (hu_of hr) (pv 0) (pv 1) (nosl fun _ _ => rfl)) (pg_tup rfl (pgs_cons (pg_name (i := 2) sc_within_of.nd rfl (Or.inl rfl)) (pgs_cons (pg_name (i := 3) sc_within_of.nd rfl (Or.inl rfl)) (pgs_cons (pg_name (i := 4) sc_within_of.nd rfl (Or.inl rfl)) (pgs_cons (pg_name (i := 5) sc_within_of.nd rfl (Or.inl rfl)) pgs_nil))))))
  (pss_one (ps_if (pt_cmpR op_eq (pv 4) pe_str (nomark _)) (pss_one (ps_ret (pv 1))) pss_nil)))))
  (pss_one (ps_ret pe_non))), ?_⟩
  refine ⟨d, .dK kvs, h1, True.intro, fun od => ?_⟩
  have fz : upd H d (.frz od (.dK kvs)) d = some (.frz od (.dK kvs)) := upd_same
  have st : ST K H (upd H d (.frz od (.dK kvs))) := ST.dk h1
  have back : upd (upd H d (.frz od (.dK kvs))) d (.dK kvs) = H := by
    funext a
    by_cases e : a = d
    · subst e
      rw [upd_same, h1]
    · rw [upd_ne e, upd_ne e]
  generalize upd H d (.frz od (.dK kvs)) = G at fz st back
  refine ⟨_, rfl, d, od, rfl, Or.inl ⟨kvs, fz, for_it walk_keys (fun i σ' H' => H' = G ∧ (∀ j y, j < i → xs[j]? = some y → decide (howOf y.2 = "within") = false) ∧ ∃ c1 c2 c3 c4 c5, σ' = [some (.ref d), c1, c2, c3, c4, c5]) ⟨rfl, fun j y hj => absurd hj (Nat.not_lt_zero _), none, none, none, none, none, rfl⟩ (fun i σ' H' _ hP => by rw [hP.1]; exact fz) ?_ ?_⟩⟩
  · rintro i x σ' H' H'' hi ⟨rfl, hn, c1, c2, c3, c4, c5, rfl⟩ ⟨rfl, k, v, hk, rfl⟩
    obtain ⟨y, hy, ⟨e1, td⟩⟩ := pd_get h2 hk
    obtain ⟨yn, yd⟩ := y
    dsimp only at e1 td
    subst e1
    have hh := hx _ (List.mem_of_getElem? hy)
    obtain ⟨a, r, l, u, rfl, hs⟩ := hand_at (td.st st).dy hh
    have vk : valV kvs (.inr yn) = some (.ref a) := pd_at h2 hnd hk
    refine ⟨_, rfl, _, rfl, d, .ref a, rfl, Or.inl ⟨kvs, .inr yn, Or.inr ⟨od, fz⟩, rfl, vk.symm⟩, a, _, rfl, hs, rfl, _, _, rfl, _, _, rfl, _, _, rfl, _, _, rfl, rfl, ?_⟩
    refine ⟨_, rfl, rfl, _, rfl, ?_⟩
    by_cases hw : howOf yd = "within"
    · refine iteT' (by rw [hw]; rfl) ?_
      refine ⟨_, rfl, fz, ?_⟩
      rw [back]
      have := find_take (fun x : Str × PyData => decide (howOf x.2 = "within")) xs i _ hy (decide_eq_true hw) hn
      have z := q H (Ex.refl H)
      unfold firstIn at z
      rw [this] at z
      exact z
    · refine iteF' (decide_eq_false fun z => hw (V.str.inj z)) ?_
      refine ⟨rfl, fun j y hj hy' => ?_, _, _, _, _, _, rfl⟩
      rcases Nat.lt_succ_iff_lt_or_eq.mp hj with z | z
      · exact hn j y z hy'
      · subst z
        rw [hy] at hy'
        cases hy'
        exact decide_eq_false hw
  · rintro σ' H' ⟨rfl, hn, c1, c2, c3, c4, c5, rfl⟩
    refine ⟨fz, ?_⟩
    rw [back]
    rw [pd_len h2] at hn
    have := find_no _ xs hn
    have z := q H (Ex.refl H)
    unfold firstIn at z
    rw [this] at z
    exact z
theorem ok_House_within (T : Tp w K mg) : FnOk P w K mg base CX0 2 T.f_House_within T.d_House_within ["self"] (spWithin K T.C_House) := by
  refine T.F_House_within.ok sc_House_within (fun vs H Q E h => ?_) (fun cdv A outer s H vs Q E hr h => ?_)
  · obtain ⟨p, hs, gs, rfl, _⟩ := h
    rfl
  obtain ⟨p, hs, gs, rfl, ho, hx, q⟩ := h
  refine ⟨_, (pss_one (ps_ret (pe_call (ok_within_of T) (hr.mono (by decide)) rfl T.m_within_of T.F_within_of.kp (b_within_of T) .nil pass0 (pa_cons (pe_fldK (K := K) rfl (pv 0) rfl) pa_nil (star1 rfl)) (by decide) (star1 rfl) (starAll rfl)))), ?_⟩
  obtain ⟨dx, fs, hda, gd, a, b, c, _, _, _, i, j⟩ := ho.ob
  exact ⟨_, rfl, p, T.C_House, dx, fs, _, rfl, a, T.cl_House, T.na_House_hands, b, hda, hs, rfl, i, hx, q⟩
theorem filt_take {α β : Type} {f : α → Bool} {g : α → β} : ∀ {xs : List α} {i : Nat} {x : α}, xs[i]? = some x → ((xs.take (i + 1)).filter f).map g = ((xs.take i).filter f).map g ++ (if f x = true then [g x] else []) := fun {xs i x} h => by
  have hi := (List.getElem?_eq_some_iff.mp h).1
  have e := (List.getElem?_eq_some_iff.mp h).2
  rw [List.take_succ_eq_append_getElem hi, List.filter_append, List.map_append, e]
  congr 1
  cases hf : f x <;> simp [hf]
theorem ok_House___len__ (T : Tp w K mg) : FnOk P w K mg base CX0 1 T.f_House___len__ T.d_House___len__ ["self"] (spLen K T.C_House) := by
  refine T.F_House___len__.ok sc_House___len__ (fun vs H Q E h => ?_) (fun cdv A outer s H vs Q E hr h => ?_)
  · obtain ⟨p, hs, gs, rfl, _⟩ := h
    rfl
  obtain ⟨p, hs, gs, rfl, ho, hx, hln, q⟩ := h
  refine ⟨_, (pss_one (ps_ret (pe_callB (lenK (K := K) rfl) rfl T.z_len PySem.boot_len (pa_cons (pe_lock (pe_lc (own := [("name", 1)]) (g := gName 1) rfl sc_House___len__.nd (pi_keys (pe_fldK (K := K) rfl (pv 0) rfl)) (blkOk_by (N := N_House___len__) (sc := defScope s_House___len__) (by decide +kernel)) (fun _ _ _ _ _ => (pg_name (i := 1) sc_House___len__.nd rfl (Or.inl rfl))) (fun _ _ _ _ _ => (pts_one (pt_cmpR op_ne (pe_ix (ixTK (K := K) rfl) (pe_dget (hu_of hr) (pe_fldK (K := K) rfl (pv 0) rfl) (pv 1) (nosl fun _ _ => rfl)) pe_int (fun _ _ => rfl)) pe_str (nomark _)))) (fun _ _ _ _ _ => (pv 1)))) pa_nil (star1 rfl)) (by decide) (by decide) (star1 rfl) (starAll rfl)))), ?_⟩
  obtain ⟨dx, fs, hda, gd, a, b, c, _, _, _, ⟨kvs, h1, h2, hnd⟩, j⟩ := ho.ob
  refine ⟨hda, .dK kvs, h1, True.intro, fun od => ?_⟩
  have pd : p ≠ hda := fun z => by
    subst z
    rw [a] at h1
    cases h1
  have fz : upd H hda (.frz od (.dK kvs)) hda = some (.frz od (.dK kvs)) := upd_same
  have aG : upd H hda (.frz od (.dK kvs)) p = some (.ins T.C_House dx fs) := by rw [upd_ne pd]; exact a
  have st : ST K H (upd H hda (.frz od (.dK kvs))) := ST.dk h1
  have oth : ∀ x, x ≠ hda → upd H hda (.frz od (.dK kvs)) x = H x := fun x n => upd_ne n
  generalize upd H hda (.frz od (.dK kvs)) = G at fz st aG oth
  refine ⟨_, rfl, p, T.C_House, dx, fs, _, rfl, aG, T.cl_House, T.na_House_hands, b, hda, od, rfl, Or.inl ⟨kvs, fz, fun D hD => ?_⟩⟩
  have Dd : D ≠ hda := fun z => by
    subst z
    rw [fz] at hD
    cases hD
  have Dp : D ≠ p := fun z => by
    subst z
    rw [aG] at hD
    cases hD
  have HD : H D = none := by rw [← oth D Dd]; exact hD
  refine lc_it walk_keys (fun i H' => H' D = some (.lst (((hs.take i).filter fun x => !decide (howOf x.2 = "out")).map fun x => V.str x.1)) ∧ ∀ x, x ≠ D → H' x = G x) ⟨upd_same, fun x n => upd_ne n⟩ (fun i H' _ hP => by rw [hP.2 _ (Ne.symm Dd)]; exact fz) ?_ ?_
  · rintro i x H2 H3 hi ⟨hacc, hk0⟩ ⟨rfl, k, v, hk, rfl⟩
    obtain ⟨y, hy, ⟨e1, td⟩⟩ := pd_get h2 hk
    obtain ⟨yn, yd⟩ := y
    dsimp only at e1 td
    subst e1
    have hh := hx _ (List.mem_of_getElem? hy)
    have st2 : ST K G H3 := ST.ex fun x o z => by
      rw [hk0 x (fun e => by subst e; rw [hD] at z; cases z)]
      exact z
    obtain ⟨t, r, l, u, rfl, hs'⟩ := hand_at (td.st (st.trans st2)).dy hh
    have vk : valV kvs (.inr yn) = some (.ref t) := pd_at h2 hnd hk
    have fz3 : H3 hda = some (.frz od (.dK kvs)) := by rw [hk0 _ (Ne.symm Dd)]; exact fz
    have a3 : H3 p = some (.ins T.C_House dx fs) := by rw [hk0 _ (Ne.symm Dp)]; exact aG
    refine ⟨rfl, _, rfl, p, T.C_House, dx, fs, _, rfl, a3, T.cl_House, T.na_House_hands, b, _, rfl, hda, .ref t, rfl, Or.inl ⟨kvs, .inr yn, Or.inr ⟨od, fz3⟩, rfl, vk.symm⟩, t, _, 2, .str (howOf yd), rfl, rfl, hs', rfl, rfl, _, rfl, ?_⟩
    have tk := filt_take (f := fun x : Str × PyData => !decide (howOf x.2 = "out")) (g := fun x : Str × PyData => V.str x.1) hy
    have ln : (((hs.take i).filter fun x => !decide (howOf x.2 = "out")).map fun x => V.str x.1).length ≤ 1000 := by
      rw [List.length_map]
      exact Nat.le_trans (List.length_filter_le _ _) (by rw [List.length_take]; omega)
    by_cases hw : howOf yd = "out"
    · refine iteF' (by rw [hw]; rfl) ⟨?_, hk0⟩
      rw [tk, hacc]
      simp [hw]
    · refine iteT' (by rw [decide_eq_false fun z => hw (V.str.inj z)]; rfl) ⟨_, rfl, _, hacc, sz_lt (by omega), ?_, fun x n => by rw [upd_ne n]; exact hk0 x n⟩
      rw [upd_same, tk]
      simp [hw]
      rfl
  · rintro H3 ⟨hacc, hk0⟩
    rw [pd_len h2, List.take_length] at hacc
    refine ⟨by rw [hk0 _ (Ne.symm Dd)]; exact fz, ?_⟩
    have z := q (upd H3 hda (.dK kvs)) fun x o e => by
      by_cases n : x = hda
      · subst n
        rw [h1] at e
        rw [upd_same, ← e]
      · rw [upd_ne n, hk0 x (fun y => by subst y; rw [HD] at e; cases e), oth x n]
        exact e
    refine ⟨D, _, rfl, Or.inl (sq_of (by rw [upd_ne Dd]; exact hacc)), ?_⟩
    rw [List.length_map]
    exact z
end

/-! ### a new house -/
theorem dc_it {J : It} {n : Nat} {G : Hp → Prop} {Y : Nat → Hp → V → Hp → Prop} (wk : Walk J n G Y) {g : TG} {tt : TT} {tk tv : TE} {vs : List Nat} {σ : L2.St} {H1 : Hp} {D : Addr} {Qd : Hp → Prop} (Pv : Nat → Hp → Prop) (h0 : Pv 0 (upd H1 D (.dK []))) (hG : ∀ i H, i ≤ n → Pv i H → G H)
    (hs : ∀ i x H H', i < n → Pv i H → Y i H x H' → g x (wipe σ vs) H' fun σ2 H2 => wipe σ2 vs = wipe σ vs ∧ tt σ2 H2 fun b H3 =>
      if b = true then tk σ2 H3 fun y H4 => tv σ2 H4 fun z H5 => ∃ kvs k, y = kV k ∧ H5 D = some (.dK kvs) ∧ kvs.length < sizeLine ∧ Pv (i + 1) (upd H5 D (.dK (putK kvs k z))) else Pv (i + 1) H3) (hd : ∀ H, Pv n H → Qd H) :
    ∃ W : Nat → Nat → Hp → Prop, (∃ m, W 0 m (upd H1 D (.dK []))) ∧ ∀ i m H, W i m H →
      (J.stop i H ∧ Qd H) ∨ (J.go i H ∧ ∃ Nx : Hp → Prop, (∀ H', Nx H' → ∃ m', m' < m ∧ W (i + 1) m' H') ∧ ∀ x H', J.yld i H x H' → g x (wipe σ vs) H' fun σ2 H2 => wipe σ2 vs = wipe σ vs ∧ tt σ2 H2 fun b H3 =>
        if b = true then tk σ2 H3 fun y H4 => tv σ2 H4 fun z H5 => ∃ kvs k, y = kV k ∧ H5 D = some (.dK kvs) ∧ kvs.length < sizeLine ∧ Nx (upd H5 D (.dK (putK kvs k z))) else Nx H3) := by
  refine ⟨fun i m H => i + m = n ∧ Pv i H, ⟨n, Nat.zero_add n, h0⟩, fun i m H hw => ?_⟩
  obtain ⟨hm, pv⟩ := hw
  have hi : i ≤ n := by omega
  have hg := hG i H hi pv
  rcases Nat.lt_or_ge i n with lt | ge
  · exact Or.inr ⟨wk.goes i H lt hg, Pv (i + 1), fun H' p' => ⟨m - 1, by omega, by omega, p'⟩, fun x H' y => hs i x H H' lt pv (wk.yields i H x H' lt hg y)⟩
  · obtain rfl : i = n := by omega
    exact Or.inl ⟨wk.stops H hg, hd H pv⟩
theorem q_fld {K : PySem.W.Frag} {ta tv : TE} {f : Str} {tz : TS} {D : Ends} {σ : L2.St} {H : Hp} (h : tv σ H fun y H1 => ta σ H1 fun x H2 => ∃ a C dx fs, x = .ref a ∧ H2 a = some (.ins C dx fs) ∧ Cls K C ∧ NoAttr K C f ∧ fs.length < 1000 ∧ tz D σ (upd H2 a (.ins C dx (putF f y fs)))) : tSeq (sFld K ta tv f) tz D σ H := h
theorem s_fld {K : PySem.W.Frag} {ta tv : TE} {f : Str} {D : Ends} {σ : L2.St} {H : Hp} (h : tv σ H fun y H1 => ta σ H1 fun x H2 => ∃ a C dx fs, x = .ref a ∧ H2 a = some (.ins C dx fs) ∧ Cls K C ∧ NoAttr K C f ∧ fs.length < 1000 ∧ D.nx σ (upd H2 a (.ins C dx (putF f y fs)))) : sFld K ta tv f D σ H := h
def h0D : PyData := .tuple [.int 0, .int 0, .str "out", .none]
def g0D : PyData := .tuple [.none, .int 0, .tuple []]
theorem pd_none {K : PySem.W.Frag} {H : Hp} {n : Str} : ∀ {kvs : List (Key × V)} {xs : List (Str × PyData)}, Paired (KD K H) kvs xs → n ∉ xs.map (·.1) → valV kvs (.inr n) = none
  | _, _, .nil, _ => rfl
  | _, _, .cons (a := kv) (b := x) h t, hn => by
    rw [List.map_cons, List.mem_cons, not_or] at hn
    rw [valV_neg fun z => hn.1 (by rw [h.1] at z; exact (Sum.inr.inj z).symm)]
    exact pd_none t hn.2
theorem pd_put {K : PySem.W.Frag} {H : Hp} {n : Str} {v : V} {d : PyData} {kvs : List (Key × V)} {xs : List (Str × PyData)} (h : Paired (KD K H) kvs xs) (hn : n ∉ xs.map (·.1)) (t : TD K H 1000 10 3 v d) : Paired (KD K H) (putK kvs (.inr n) v) (xs ++ [(n, d)]) := by
  rw [putK_new _ (pd_none h hn)]
  exact h.snoc ⟨rfl, t⟩
theorem st_kp {K : PySem.W.Frag} {H H' : Hp} {p C dx : Addr} {fs : List (Str × V)} (h : H p = some (.ins C dx fs)) (k : Kp p p H H') : ST K H H' := fun a xs s => by
  have no : ∀ {u : HO}, H a = some u → (∀ C' dx' fs', u ≠ .ins C' dx' fs') → H' a = some u := fun {u} z n => by
    have : a ≠ p := fun y => by
      subst y
      rw [h] at z
      cases z
      exact n _ _ _ rfl
    exact k _ _ this this z
  rcases s with (z | ⟨ob, z⟩) | z
  · exact Or.inl (Or.inl (no z fun _ _ _ y => by cases y))
  · exact Or.inl (Or.inr ⟨ob, no z fun _ _ _ y => by cases y⟩)
  · exact Or.inr z
theorem tk_kp {H H' : Hp} {p C dx : Addr} {fs : List (Str × V)} (h : H p = some (.ins C dx fs)) (k : Kp p p H H') : TK H H' := fun a xs z => by
  have : a ≠ p := fun y => by
    subst y
    rw [h] at z
    cases z
  exact k _ _ this this z
theorem book_pairs {K : PySem.W.Frag} {H : Hp} : ∀ {xs : List V} {ds : List PyData}, DyAll K H xs ds → (∀ d ∈ ds, pairB d = true) → ∃ (ps : List Addr) (kvs : List (Key × V)), xs = ps.map V.ref ∧ Paired (fun p kv => SqT K H p [kV kv.1, kv.2]) ps kvs
  | _, _, .nil, _ => ⟨[], [], rfl, .nil⟩
  | _, _, .cons (v := v) (d := d) h t, hp => by
    obtain ⟨ps, kvs, e, hk⟩ := book_pairs t fun d' hd' => hp d' (List.mem_cons_of_mem _ hd')
    have h1 := hp d List.mem_cons_self
    cases h with
    | tup hs ha =>
      rename_i a ys es
      cases ha with
      | nil => cases h1
      | cons d1 ha =>
        cases ha with
        | nil => cases d1 <;> cases h1
        | cons d2 ha =>
          cases ha with
          | cons _ _ => cases d1 <;> cases h1
          | nil =>
            cases d1 with
            | str z => exact ⟨a :: ps, (.inr z, _) :: kvs, by rw [e]; rfl, .cons hs hk⟩
            | _ => cases h1
    | _ => cases h1
theorem kp_upd {H H' : Hp} {p : Addr} {o : HO} (k : Kp p p H H') : Kp p p H (upd H' p o) := fun c u n1 n2 z => by
  rw [upd_ne n1]
  exact k c u n1 n2 z
theorem DD.kp {K : PySem.W.Frag} {H H' : Hp} {p C dx d : Addr} {fs : List (Str × V)} {xs : List (Str × PyData)} (h : H p = some (.ins C dx fs)) (k : Kp p p H H') (dd : DD K H d xs) : DD K H' d xs := by
  obtain ⟨kvs, h1, h2, h3⟩ := dd
  have : d ≠ p := fun y => by
    subst y
    rw [h] at h1
    cases h1
  exact ⟨kvs, k _ _ this this h1, pd_st (st_kp h k) h2, h3⟩
theorem paired_st {K : PySem.W.Frag} {H H' : Hp} (s : ST K H H') : ∀ {ps : List Addr} {kvs : List (Key × V)}, Paired (fun p kv => SqT K H p [kV kv.1, kv.2]) ps kvs → Paired (fun p kv => SqT K H' p [kV kv.1, kv.2]) ps kvs
  | _, _, .nil => .nil
  | _, _, .cons h t => .cons (s _ _ h) (paired_st s t)
theorem take_map {α β : Type} {f : α → β} {xs : List α} {i : Nat} {x : α} (h : xs[i]? = some x) : ((xs.take (i + 1)).map f) = (xs.take i).map f ++ [f x] := by
  have hi := (List.getElem?_eq_some_iff.mp h).1
  rw [List.take_succ_eq_append_getElem hi, List.map_append, (List.getElem?_eq_some_iff.mp h).2]
  rfl
theorem take_notin {xs : List Str} {i : Nat} {x : Str} {d : PyData} (nd : xs.Nodup) (h : xs[i]? = some x) : x ∉ ((xs.take i).map fun y => (y, d)).map (·.1) := by
  rw [List.map_map]
  intro hm
  obtain ⟨y, hy, e⟩ := List.mem_map.mp hm
  have e' : y = x := e
  subst e'
  obtain ⟨j, hj, e2⟩ := List.mem_take_iff_getElem.mp hy
  have hi := List.getElem?_eq_some_iff.mp h
  obtain ⟨hi1, hi2⟩ := hi
  have := (List.getElem_inj (h₀ := by omega) (h₁ := hi1) nd).mp (e2.trans hi2.symm)
  omega
theorem names_map {xs : List Str} {d : PyData} : (xs.map fun y => (y, d)).map (·.1) = xs := by
  rw [List.map_map]
  exact List.map_id' xs
def spInit (K : PySem.W.Frag) (C : Addr) : Sp := fun vs H Q _ => ∃ (p dx : Addr) (v : V) (n : Str) (b : Int) (ms : List Tr) (a : Addr) (o : Obj) (xs : List V) (ds : List PyData) (ys : List Str), vs = [.ref p, v, .ref a] ∧ H p = some (.ins C dx []) ∧ TrV H v (.grp n b ms) ∧ (Tr.grp n b ms).ok ∧ (Tr.grp n b ms).deep ≤ 12 ∧ (Tr.grp n b ms).size < 64 ∧ (Tr.grp n b ms).nms.Nodup ∧ (∀ x ∈ (Tr.grp n b ms).nms, nameOk x) ∧
  H a = some (.frz o (.tup xs)) ∧ o.dict = none ∧ TDs K H 4410 61 3 xs ds ∧ ds.length ≤ 20 ∧ ys.Perm (handsOf (.grp n b ms)) ∧ PyProof.Rows.sortedS ys = true ∧ bookB ys (.tuple ds) = true ∧
  ∀ H', Kp p p H H' → HsAt K C H' p ((handsOf (.grp n b ms)).map fun x => (x, h0D)) ((groupsOf (.grp n b ms)).map fun x => (x, g0D)) → Q .non H'
section
variable {P : Program} {w : World} {K : PySem.W.Frag} {mg : Str → Option Value} {base : Heap}
theorem ok_House___init__ (T : Tp w K mg) : FnOk P w K mg base CX0 16 T.f_House___init__ T.d_House___init__ ["self", "plan", "book"] (spInit K T.C_House) := by
  refine T.F_House___init__.ok sc_House___init__ (fun vs H Q E h => ?_) (fun cdv A outer s H vs Q E hr h => ?_)
  · obtain ⟨p, dx, v, n, b, ms, a, o, xs, ds, ys, rfl, _⟩ := h
    rfl
  obtain ⟨p, dx, v, n, b, ms, a, o, xs, ds, ys, rfl, hp, tv, tok, tdp, tsz, tnd, tnm, hfr, hdn, tds, hdl, hpm, hsd, hbk, q⟩ := h
  refine ⟨_, (pss_cons (ps_if (pt_not (pt_val (pe_call (ok_is_plan T) (hr.mono (by decide)) rfl T.m_is_plan T.F_is_plan.kp (b_is_plan T) .nil pass0 (pa_cons (pv 1) pa_nil (star1 rfl)) (by decide) (star1 rfl) (starAll rfl)))) (pss_one ps_never) pss_nil)
  (pss_cons (ps_if (pt_not (pt_val (pe_call (ok_is_book T) (hr.mono (by decide)) rfl T.m_is_book T.F_is_book.kp (b_is_book T) .nil pass0 (pa_cons (pv 1) (pa_cons (pv 2) pa_nil (star1 rfl)) (star1 rfl)) (by decide) (star1 rfl) (starAll rfl)))) (pss_one ps_never) pss_nil)
  (pss_cons (ps_fld (pv 0) (pv 1) rfl)
  (pss_cons (ps_fld (pv 0) (pv 2) rfl)
  (pss_cons (ps_fld (pv 0) (pe_dc (own := [("name", 3), ("bound", 4), ("path", 5)]) (g := gTup K 3 (gCons (gName 3) (gCons (gName 4) (gCons (gName 5) gNil)))) (tt := tYes) rfl sc_House___init__.nd (plLK (K := K) rfl (pe_call (ok_all_in T) (hr.mono (by decide)) rfl T.m_all_in T.F_all_in.kp (b_all_in T) .nil pass0 (pa_cons (pv 1) pa_nil (star1 rfl)) (by decide) (star1 rfl) (starAll rfl))) (blkOk_by (N := N_House___init__) (sc := defScope s_House___init__) (by decide +kernel)) (fun _ _ _ _ _ => (pg_tup rfl (pgs_cons (pg_name (i := 3) sc_House___init__.nd rfl (Or.inl rfl)) (pgs_cons (pg_name (i := 4) sc_House___init__.nd rfl (Or.inl rfl)) (pgs_cons (pg_name (i := 5) sc_House___init__.nd rfl (Or.inl rfl)) pgs_nil))))) (fun _ _ _ _ _ => pts_nil) (fun _ _ _ _ _ => (pv 3)) (fun _ _ _ _ _ => (pv 5))) rfl)
  (pss_cons (ps_fld (pv 0) (pe_dictZ (K := K) rfl rfl T.z_dict rfl T.z_zip (pa_cons (pe_call (ok_groups_of T) (hr.mono (by decide)) rfl T.m_groups_of T.F_groups_of.kp (b_groups_of T) .nil pass0 (pa_cons (pv 1) pa_nil (star1 rfl)) (by decide) (star1 rfl) (starAll rfl)) (pa_cons (pe_call (ok_bounds_of T) (hr.mono (by decide)) rfl T.m_bounds_of T.F_bounds_of.kp (b_bounds_of T) .nil pass0 (pa_cons (pv 1) pa_nil (star1 rfl)) (by decide) (star1 rfl) (starAll rfl)) pa_nil (star1 rfl)) (star1 rfl)) rfl (star1 rfl) (starAll rfl)) rfl)
  (pss_cons (ps_fld (pv 0) (pe_callTy (call_dictT (K := K) rfl rfl) rfl T.z_dict (by decide +kernel) (pa_cons (pv 2) pa_nil (star1 rfl)) (by decide) (by decide) (star1 rfl) (starAll rfl)) rfl)
  (pss_cons (ps_fld (pv 0) (pe_dc (own := [("name", 3)]) (g := gName 3) (tt := tYes) rfl sc_House___init__.nd (piTK (K := K) rfl (pe_call (ok_hands_of T) (hr.mono (by decide)) rfl T.m_hands_of T.F_hands_of.kp (b_hands_of T) .nil pass0 (pa_cons (pv 1) pa_nil (star1 rfl)) (by decide) (star1 rfl) (starAll rfl))) (blkOk_by (N := N_House___init__) (sc := defScope s_House___init__) (by decide +kernel)) (fun _ _ _ _ _ => (pg_name (i := 3) sc_House___init__.nd rfl (Or.inl rfl))) (fun _ _ _ _ _ => pts_nil) (fun _ _ _ _ _ => (pv 3)) (fun _ _ _ _ _ => (pe_tup (pa_cons pe_int (pa_cons pe_int (pa_cons pe_str (pa_cons pe_non pa_nil (star1 rfl)) (star1 rfl)) (star1 rfl)) (star1 rfl))))) rfl)
  (pss_one (ps_fld (pv 0) (pe_dc (own := [("name", 3)]) (g := gName 3) (tt := tYes) rfl sc_House___init__.nd (piTK (K := K) rfl (pe_call (ok_groups_of T) (hr.mono (by decide)) rfl T.m_groups_of T.F_groups_of.kp (b_groups_of T) .nil pass0 (pa_cons (pv 1) pa_nil (star1 rfl)) (by decide) (star1 rfl) (starAll rfl))) (blkOk_by (N := N_House___init__) (sc := defScope s_House___init__) (by decide +kernel)) (fun _ _ _ _ _ => (pg_name (i := 3) sc_House___init__.nd rfl (Or.inl rfl))) (fun _ _ _ _ _ => pts_nil) (fun _ _ _ _ _ => (pv 3)) (fun _ _ _ _ _ => (pe_tup (pa_cons pe_non (pa_cons pe_int (pa_cons (pe_tup pa_nil) pa_nil (star1 rfl)) (star1 rfl)) (star1 rfl))))) rfl)))))))))), ?_⟩
  obtain ⟨t1, t2, t3⟩ := tree_fits tnm tok (by omega) tdp
  have tdb : TD K H 90000 1300 4 (.ref a) (.tuple ds) := (TDs.tup (n := 20) tds (Or.inl (Or.inr ⟨o, hfr⟩)) hdl).up (by decide) (by decide) (by decide)
  have pb : ∀ d ∈ ds, pairB d = true := by
    unfold bookB at hbk
    rw [Bool.and_eq_true] at hbk
    exact List.all_eq_true.mp hbk.1
  obtain ⟨ps, kvs, hxs, hkv⟩ := book_pairs tds.all.1 pb
  -- if not is_plan(plan)
  refine q_when (b := false) (et_is (et_not (et_B (b := true) (ev_is (ev_call (ea_cons (ev_var rfl) ea_nil) fun H1 e1 Q' q' E' => ⟨v, _, rfl, tree_dx (trv_tk (TK.ex e1) _ _ tv), t1, t2, Nat.le_trans t3 (by decide), q'⟩) ?_))) rfl) (fun hb => by cases hb) (fun _ H1 e1 => ?_)
  · rw [plan_tree tok tnm, decide_eq_true tnd]
  -- if not is_book(plan, book)
  refine q_when (b := false) (et_is (et_not (et_B (b := true) (ev_call (ea_cons (ev_var rfl) (ea_cons (ev_var rfl) ea_nil)) fun H2 e2 Q' q' E' => ⟨v, .ref a, n, b, ms, .tuple ds, 1000, rfl, trv_tk (TK.ex (e1.trans e2)) _ _ tv, tdp, tsz, tnm, dy_dx (dy_mono (e1.trans e2) tdb.dy), Nat.le_trans tdb.nd (by decide), tdb.ok, fun ys' H3 hp' hs' e3 => ?_⟩))) rfl) (fun hb => by cases hb) (fun _ H2 e2 => ?_)
  · rw [sorted_unique hs' hsd (hp'.trans hpm.symm), hbk]
    exact q' H3 e3
  have e02 := e1.trans e2
  -- self.plan = plan, self.book = book
  refine q_fld ⟨_, rfl, _, rfl, p, T.C_House, dx, [], rfl, e02 _ _ hp, T.cl_House, T.na_House_plan, (by show 0 < 1000; decide), ?_⟩
  refine q_fld ⟨_, rfl, _, rfl, p, T.C_House, dx, _, rfl, upd_same, T.cl_House, T.na_House_book, (by show 1 < 1000; decide), ?_⟩
  have hpb : upd (upd H2 p (.ins T.C_House dx (putF "plan" v []))) p (.ins T.C_House dx (putF "book" (.ref a) (putF "plan" v []))) p = some (.ins T.C_House dx (putF "book" (.ref a) (putF "plan" v []))) := upd_same
  have kb : Kp p p H (upd (upd H2 p (.ins T.C_House dx (putF "plan" v []))) p (.ins T.C_House dx (putF "book" (.ref a) (putF "plan" v [])))) := kp_upd (kp_upd (Kp.ex e02))
  generalize upd (upd H2 p (.ins T.C_House dx (putF "plan" v []))) p (.ins T.C_House dx (putF "book" (.ref a) (putF "plan" v []))) = Hb at hpb kb
  have hsz : (Tr.grp n b ms).size ≤ 1000 := by omega
  -- self.paths
  refine q_fld ⟨_, rfl, v, n, b, ms, rfl, trv_tk (tk_kp hp kb) _ _ tv, tdp, hsz, fun r rxs H3 e3 hr3 h3 rows => ⟨r, rfl, ⟨rxs, sq_of h3⟩, fun D hD => ?_⟩⟩
  have hrl : rxs.length ≤ 1000 := by rw [rows.len, rows_len]; exact hsz
  refine dc_it (walk_list (K := K) (a := r) (xs := rxs)) (fun i H' => Ex H3 H' ∧ ∃ kvs, H' D = some (.dK kvs) ∧ kvs.length ≤ i) ⟨Ex.new hD, [], upd_same, Nat.le_refl _⟩ (fun i H' _ hP => sq_of (hP.1 _ _ h3)) ?_ ?_
  · rintro i x H4 H5 hi ⟨e4, kvs4, hk4, hl4⟩ ⟨rfl, hx⟩
    obtain ⟨rw', hrw, a', pa, rfl, ha, hpa⟩ := rows.get hx
    refine ⟨a', _, rfl, st_of (e4 _ _ ha), rfl, _, _, rfl, _, _, rfl, _, _, rfl, rfl, rfl, tYesQ ?_⟩
    refine ⟨_, rfl, _, rfl, kvs4, .inr rw'.1, rfl, hk4, sz_lt (by omega), Ex.mut e4 hD, _, upd_same, Nat.le_trans (length_putK _ _ _) (by omega)⟩
  rintro H4 ⟨e4, kvs4, hk4, _⟩
  refine ⟨_, rfl, p, T.C_House, dx, _, rfl, e4 _ _ (e3 _ _ hpb), T.cl_House, T.na_House_paths, (by show 2 < 1000; decide), ?_⟩
  have kc : Kp p p H (upd H4 p (.ins T.C_House dx (putF "paths" (.ref D) (putF "book" (.ref a) (putF "plan" v []))))) := kp_upd (kb.trans (Kp.ex (e3.trans e4)))
  have hpc : upd H4 p (.ins T.C_House dx (putF "paths" (.ref D) (putF "book" (.ref a) (putF "plan" v [])))) p = _ := upd_same
  generalize upd H4 p (.ins T.C_House dx (putF "paths" (.ref D) (putF "book" (.ref a) (putF "plan" v [])))) = Hc at hpc kc
  -- self.bounds
  have tvc := trv_tk (tk_kp hp kc) _ _ tv
  refine q_fld ⟨_, rfl, v, n, b, ms, rfl, tvc, tdp, hsz, fun a1 H5 e5 h5 => ⟨_, rfl, v, n, b, ms, rfl, trv_tk (TK.ex e5) _ _ tvc, tdp, hsz, fun a2 H6 e6 h6 => ⟨a1, a2, (groupsOf (.grp n b ms)).map Sum.inr, boundsV (.grp n b ms), rfl, ?_, st_of h6, by rw [List.length_map, bounds_len], fun D2 hD2 => ?_⟩⟩⟩
  · rw [List.map_map]
    exact st_of (e6 _ _ h5)
  have e7 := (e5.trans e6).trans (Ex.new (o := .dK (mergeK [] (((groupsOf (.grp n b ms)).map Sum.inr).zip (boundsV (.grp n b ms))))) hD2)
  generalize upd H6 D2 (.dK (mergeK [] (((groupsOf (.grp n b ms)).map Sum.inr).zip (boundsV (.grp n b ms))))) = H7 at e7
  refine ⟨_, rfl, p, T.C_House, dx, _, rfl, e7 _ _ hpc, T.cl_House, T.na_House_bounds, (by show 3 < 1000; decide), ?_⟩
  have kd := kp_upd (o := .ins T.C_House dx (putF "bounds" (.ref D2) (putF "paths" (.ref D) (putF "book" (.ref a) (putF "plan" v []))))) (kc.trans (Kp.ex e7))
  have hpd : upd H7 p (.ins T.C_House dx (putF "bounds" (.ref D2) (putF "paths" (.ref D) (putF "book" (.ref a) (putF "plan" v []))))) p = _ := upd_same
  generalize upd H7 p (.ins T.C_House dx (putF "bounds" (.ref D2) (putF "paths" (.ref D) (putF "book" (.ref a) (putF "plan" v []))))) = Hd at hpd kd
  -- self.programs
  have ap : a ≠ p := fun y => by
    subst y
    rw [hp] at hfr
    cases hfr
  refine q_fld ⟨_, rfl, a, o, ps, kvs, rfl, by rw [← hxs]; exact kd _ _ ap ap hfr, hdn, paired_st (st_kp hp kd) hkv, fun D3 hD3 => ?_⟩
  have e8 := Ex.new (o := .dK (mergeK [] kvs)) hD3
  generalize upd Hd D3 (.dK (mergeK [] kvs)) = H8 at e8
  refine ⟨_, rfl, p, T.C_House, dx, _, rfl, e8 _ _ hpd, T.cl_House, T.na_House_programs, (by show 4 < 1000; decide), ?_⟩
  have ke := kp_upd (o := .ins T.C_House dx (putF "programs" (.ref D3) (putF "bounds" (.ref D2) (putF "paths" (.ref D) (putF "book" (.ref a) (putF "plan" v [])))))) (kd.trans (Kp.ex e8))
  have hpe : upd H8 p (.ins T.C_House dx (putF "programs" (.ref D3) (putF "bounds" (.ref D2) (putF "paths" (.ref D) (putF "book" (.ref a) (putF "plan" v [])))))) p = _ := upd_same
  generalize upd H8 p (.ins T.C_House dx (putF "programs" (.ref D3) (putF "bounds" (.ref D2) (putF "paths" (.ref D) (putF "book" (.ref a) (putF "plan" v [])))))) = He at hpe ke
  have nds := names_nodup tnd
  rw [List.nodup_append] at nds
  have nl := names_len (.grp n b ms)
  rw [List.length_append] at nl
  -- self.hands
  refine q_fld ⟨_, rfl, v, n, b, ms, rfl, trv_tk (tk_kp hp ke) _ _ tv, tdp, hsz, fun a3 H9 e9 h9 => ⟨a3, rfl, ⟨_, st_of h9⟩, fun D4 hD4 => ?_⟩⟩
  refine dc_it (walk_tup (K := K) (a := a3) (xs := (handsOf (.grp n b ms)).map V.str)) (fun i H' => Ex H9 H' ∧ ∃ kvs, H' D4 = some (.dK kvs) ∧ Paired (KD K H') kvs (((handsOf (.grp n b ms)).take i).map fun x => (x, h0D))) ⟨Ex.new hD4, [], upd_same, .nil⟩ (fun i H' _ hP => st_of (hP.1 _ _ h9)) ?_ ?_
  · rintro i x H10 H11 hi ⟨e10, kvs4, hk4, hl4⟩ ⟨rfl, hx⟩
    obtain ⟨y, hy, rfl⟩ : ∃ y, (handsOf (.grp n b ms))[i]? = some y ∧ x = .str y := by
      rw [List.getElem?_map] at hx
      cases hz : (handsOf (.grp n b ms))[i]? with
      | none => rw [hz] at hx; cases hx
      | some y => rw [hz] at hx; cases hx; exact ⟨y, rfl, rfl⟩
    refine ⟨rfl, tYesQ ?_⟩
    refine ⟨_, rfl, (by show 4 ≤ sizeLine; decide), fun t ht => ?_⟩
    have e11 := Ex.new (o := .tup [.int 0, .int 0, .str "out", .non]) ht
    have ht' : upd H11 t (.tup [.int 0, .int 0, .str "out", .non]) t = some (.tup [.int 0, .int 0, .str "out", .non]) := upd_same
    generalize upd H11 t (.tup [.int 0, .int 0, .str "out", .non]) = H12 at e11 ht'
    have hk12 := e11 _ _ hk4
    have ln := pd_len hl4
    rw [List.length_map, List.length_take] at ln
    refine ⟨kvs4, .inr y, rfl, hk12, sz_lt (by omega), Ex.mut (e10.trans e11) hD4, _, upd_same, ?_⟩
    have td : TD K H12 1000 10 3 (.ref t) h0D := (TDs.tup (n := 4) (W := 100) (N := 1) (D := 0) (.cons (td_int (by decide)) (.cons (td_int (by decide)) (.cons (td_lit (by decide) (by decide)) (.cons td_non .nil)))) (st_of ht') (by decide)).up (by decide) (by decide) (by decide)
    rw [take_map hy]
    exact pd_put (pd_st (ST.dk hk12) (pd_st (ST.ex e11) hl4)) (take_notin nds.1 hy) (td.st (ST.dk hk12))
  rintro H10 ⟨e10, kvs4, hk4, hl4⟩
  rw [List.length_map, List.take_length] at hl4
  have dd4 : DD K H10 D4 ((handsOf (.grp n b ms)).map fun x => (x, h0D)) := ⟨kvs4, hk4, hl4, by rw [names_map]; exact nds.1⟩
  have hp10 := e10 _ _ (e9 _ _ hpe)
  refine ⟨_, rfl, p, T.C_House, dx, _, rfl, hp10, T.cl_House, T.na_House_hands, (by show 5 < 1000; decide), ?_⟩
  have kf := kp_upd (o := .ins T.C_House dx (putF "hands" (.ref D4) (putF "programs" (.ref D3) (putF "bounds" (.ref D2) (putF "paths" (.ref D) (putF "book" (.ref a) (putF "plan" v []))))))) (ke.trans (Kp.ex (e9.trans e10)))
  have kf' := kp_upd (p := p) (o := .ins T.C_House dx (putF "hands" (.ref D4) (putF "programs" (.ref D3) (putF "bounds" (.ref D2) (putF "paths" (.ref D) (putF "book" (.ref a) (putF "plan" v []))))))) (Kp.ex (Ex.refl H10))
  have ddf := DD.kp hp10 kf' dd4
  have hpf : upd H10 p (.ins T.C_House dx (putF "hands" (.ref D4) (putF "programs" (.ref D3) (putF "bounds" (.ref D2) (putF "paths" (.ref D) (putF "book" (.ref a) (putF "plan" v []))))))) p = _ := upd_same
  generalize upd H10 p (.ins T.C_House dx (putF "hands" (.ref D4) (putF "programs" (.ref D3) (putF "bounds" (.ref D2) (putF "paths" (.ref D) (putF "book" (.ref a) (putF "plan" v []))))))) = Hf at hpf kf ddf
  -- self.groups
  refine s_fld ⟨_, rfl, v, n, b, ms, rfl, trv_tk (tk_kp hp kf) _ _ tv, tdp, hsz, fun a4 H9 e9 h9 => ⟨a4, rfl, ⟨_, st_of h9⟩, fun D5 hD5 => ?_⟩⟩
  refine dc_it (walk_tup (K := K) (a := a4) (xs := (groupsOf (.grp n b ms)).map V.str)) (fun i H' => Ex H9 H' ∧ ∃ kvs, H' D5 = some (.dK kvs) ∧ Paired (KD K H') kvs (((groupsOf (.grp n b ms)).take i).map fun x => (x, g0D))) ⟨Ex.new hD5, [], upd_same, .nil⟩ (fun i H' _ hP => st_of (hP.1 _ _ h9)) ?_ ?_
  · rintro i x H10 H11 hi ⟨e10, kvs4, hk4, hl4⟩ ⟨rfl, hx⟩
    obtain ⟨y, hy, rfl⟩ : ∃ y, (groupsOf (.grp n b ms))[i]? = some y ∧ x = .str y := by
      rw [List.getElem?_map] at hx
      cases hz : (groupsOf (.grp n b ms))[i]? with
      | none => rw [hz] at hx; cases hx
      | some y => rw [hz] at hx; cases hx; exact ⟨y, rfl, rfl⟩
    refine ⟨rfl, tYesQ ?_⟩
    refine ⟨_, rfl, (by show 0 ≤ sizeLine; decide), fun t0 ht0 => ⟨(by show 3 ≤ sizeLine; decide), fun t ht => ?_⟩⟩
    have e11 := (Ex.new (o := .tup []) ht0).trans (Ex.new (o := .tup [.non, .int 0, .ref t0]) ht)
    have h0' : upd (upd H11 t0 (.tup [])) t (.tup [.non, .int 0, .ref t0]) t0 = some (.tup []) := (Ex.new ht) _ _ upd_same
    have ht' : upd (upd H11 t0 (.tup [])) t (.tup [.non, .int 0, .ref t0]) t = some (.tup [.non, .int 0, .ref t0]) := upd_same
    generalize upd (upd H11 t0 (.tup [])) t (.tup [.non, .int 0, .ref t0]) = H12 at e11 ht' h0'
    have hk12 := e11 _ _ hk4
    have ln := pd_len hl4
    rw [List.length_map, List.length_take] at ln
    refine ⟨kvs4, .inr y, rfl, hk12, sz_lt (by omega), Ex.mut (e10.trans e11) hD5, _, upd_same, ?_⟩
    have td0 : TD K H12 100 1 1 (.ref t0) (.tuple []) := (TDs.tup (n := 0) (W := 100) (N := 1) (D := 0) .nil (st_of h0') (by decide)).up (by decide) (by decide) (by decide)
    have td : TD K H12 1000 10 3 (.ref t) g0D := (TDs.tup (n := 3) (W := 100) (N := 1) (D := 1) (.cons td_non (.cons (td_int (by decide)) (.cons td0 .nil))) (st_of ht') (by decide)).up (by decide) (by decide) (by decide)
    rw [take_map hy]
    exact pd_put (pd_st (ST.dk hk12) (pd_st (ST.ex e11) hl4)) (take_notin nds.2.1 hy) (td.st (ST.dk hk12))
  rintro H10 ⟨e10, kvs4, hk4, hl4⟩
  rw [List.length_map, List.take_length] at hl4
  have dd5 : DD K H10 D5 ((groupsOf (.grp n b ms)).map fun x => (x, g0D)) := ⟨kvs4, hk4, hl4, by rw [names_map]; exact nds.2.1⟩
  have hp10 := e10 _ _ (e9 _ _ hpf)
  refine ⟨_, rfl, p, T.C_House, dx, _, rfl, hp10, T.cl_House, T.na_House_groups, (by show 6 < 1000; decide), ?_⟩
  have kk := kp_upd (p := p) (o := .ins T.C_House dx (putF "groups" (.ref D5) (putF "hands" (.ref D4) (putF "programs" (.ref D3) (putF "bounds" (.ref D2) (putF "paths" (.ref D) (putF "book" (.ref a) (putF "plan" v [])))))))) (Kp.ex (Ex.refl H10))
  refine q _ ((kf.trans (Kp.ex (e9.trans e10))).trans kk) ⟨⟨dx, _, D4, D5, upd_same, ?_, ?_, ?_, ?_, ?_, DD.kp hp10 kk (ddf.ex (e9.trans e10)), DD.kp hp10 kk dd5⟩⟩
  · rw [lookup_putF, if_neg (by decide +kernel), lookup_putF, if_pos rfl]
  · rw [lookup_putF, if_pos rfl]
  · rw [lookup_putF, if_neg (by decide +kernel), lookup_putF, if_neg (by decide +kernel), lookup_putF, if_neg (by decide +kernel), lookup_putF, if_neg (by decide +kernel), lookup_putF, if_neg (by decide +kernel), lookup_putF, if_neg (by decide +kernel), lookup_putF, if_neg (by decide +kernel)]
    rfl
  · rw [lookup_putF, if_neg (by decide +kernel), lookup_putF, if_neg (by decide +kernel), lookup_putF, if_neg (by decide +kernel), lookup_putF, if_neg (by decide +kernel), lookup_putF, if_neg (by decide +kernel), lookup_putF, if_neg (by decide +kernel), lookup_putF, if_neg (by decide +kernel)]
    rfl
  · rw [lookup_putF, if_neg (by decide +kernel), lookup_putF, if_neg (by decide +kernel), lookup_putF, if_neg (by decide +kernel), lookup_putF, if_neg (by decide +kernel), lookup_putF, if_neg (by decide +kernel), lookup_putF, if_neg (by decide +kernel), lookup_putF, if_neg (by decide +kernel)]
    rfl
end

/-! ### the law -/
mutual
theorem parts_groups : ∀ (t : Tr) (a : Option Str) (p : List Str), ((partsT t a).filter fun r => r.2.2.isSome).map (·.1) = ((t.told p).filter fun r => r.2.1).map (·.1)
  | .hand n, a, p => by simp [partsT, Tr.told]
  | .grp n b ms, a, p => by
    simp only [partsT, Tr.told, List.filter_cons]
    simpa using partss_groups ms (some n) (n :: p)
theorem partss_groups : ∀ (ts : List Tr) (a : Option Str) (p : List Str), ((partsTs ts a).filter fun r => r.2.2.isSome).map (·.1) = ((tolds ts p).filter fun r => r.2.1).map (·.1)
  | [], a, p => by simp [partsTs, tolds]
  | t :: ts, a, p => by simp only [partsTs, tolds, List.filter_append, List.map_append, parts_groups t a p, partss_groups ts a p]
end
theorem atN_map {xs : List Str} {d : PyData} {n : Str} (h : n ∈ xs) : atN (xs.map fun x => (x, d)) n = some d := by
  induction xs with
  | nil => cases h
  | cons y ys ih =>
    by_cases e : y = n
    · simp [atN, e]
    · rcases List.mem_cons.mp h with z | z
      · exact absurd z.symm e
      · have := ih z
        simp only [atN, List.map_cons, List.find?_cons, decide_eq_false e] at this ⊢
        exact this
theorem first_out (xs : List Str) : firstIn (xs.map fun x => (x, h0D)) = .non := by
  have : (xs.map fun x => (x, h0D)).find? (fun x => decide (howOf x.2 = "within")) = none := by
    rw [List.find?_eq_none]
    intro x hx
    obtain ⟨y, _, rfl⟩ := List.mem_map.mp hx
    have : ¬ (howOf h0D = "within") := by decide +kernel
    simp [this]
  unfold firstIn
  rw [this]
theorem none_out (xs : List Str) : ((xs.map fun x => (x, h0D)).filter fun x => !decide (howOf x.2 = "out")).length = 0 := by
  rw [List.length_eq_zero_iff, List.filter_eq_nil_iff]
  intro x hx
  obtain ⟨y, _, rfl⟩ := List.mem_map.mp hx
  have : howOf h0D = "out" := rfl
  simp [this]
theorem s_forW {wi : TI} {g : TG} {tb : TS} {D : Ends} {σ : L2.St} {H : Hp} (h : wi σ H fun J H1 => ∃ W : Nat → Nat → L2.St → Hp → Prop, (∃ m, W 0 m σ H1) ∧ ∀ i m σ H, W i m σ H →
    (J.stop i H ∧ D.nx σ H) ∨ (J.go i H ∧ ∃ N : L2.St → Hp → Prop, (∀ σ' H', N σ' H' → ∃ m', m' < m ∧ W (i + 1) m' σ' H') ∧ ∀ x H', J.yld i H x H' → g x σ H' fun σ2 H2 => tb { D with nx := N, ct := N, bk := D.nx } σ2 H2)) : tFor wi g tb D σ H := h
theorem q_ifP {t : TT} {tu tz : TS} {D : Ends} {σ : L2.St} {H : Hp} (h : t σ H fun c H1 => if c = true then tu { D with nx := tz D } σ H1 else tz D σ H1) : tSeq (tIfS t tu tNext) tz D σ H := h
theorem h0_td {K : PySem.W.Frag} {H : Hp} {t : Addr} (h : H t = some (.tup [.int 0, .int 0, .str "out", .non])) : TD K H 1000 10 3 (.ref t) h0D := (TDs.tup (n := 4) (W := 100) (N := 1) (D := 0) (.cons (td_int (by decide)) (.cons (td_int (by decide)) (.cons (td_lit (by decide) (by decide)) (.cons td_non .nil)))) (st_of h) (by decide)).up (by decide) (by decide) (by decide)
theorem g0_td {K : PySem.W.Frag} {H : Hp} {t t0 : Addr} (h0 : H t0 = some (.tup [])) (h : H t = some (.tup [.non, .int 0, .ref t0])) : TD K H 1000 10 3 (.ref t) g0D :=
  (TDs.tup (n := 3) (W := 100) (N := 1) (D := 1) (.cons td_non (.cons (td_int (by decide)) (.cons ((TDs.tup (n := 0) (W := 100) (N := 1) (D := 0) .nil (st_of h0) (by decide)).up (by decide) (by decide) (by decide)) .nil))) (st_of h) (by decide)).up (by decide) (by decide) (by decide)
theorem td_sh {K : PySem.W.Frag} {H : Hp} {W N D : Nat} {v : V} {d : PyData} (t : TD K H W N D v d) (hW : W ≤ 10000000) (hD : D ≤ 64) : showsY d := shows_of (B := 1000) (by decide) t.ok t.wt t.dp hW hD
def spLaw (K : PySem.W.Frag) : Sp := fun vs H Q _ => ∃ (a : Addr) (ns : List Int), vs = [.ref a] ∧ SqL K H a (ns.map V.int) ∧ ns.length ≤ 63 ∧ Sy K H ∧ ∀ H', Q (.bl true) H'
section
variable {P : Program} {w : World} {K : PySem.W.Frag} {mg : Str → Option Value} {base : Heap}
theorem ok_law (T : Tp w K mg) : FnG P w K mg base 18 T.f_law T.d_law ["_law_script"] (spLaw K) := by
  refine fun_g T.F_law sc_law (fun vs H Q E h => ?_) (fun cdv A outer s H vs Q E hG hr h => ?_)
  · obtain ⟨a, ns, rfl, _⟩ := h
    rfl
  obtain ⟨a, ns, rfl, hS, h63, y0, q⟩ := h
  refine ⟨_, (pss_cons (ps_for PassesOwn.never rfl (pi_range1 rfl T.z_range (pa_cons (pe_op op_add pe_int (pe_callB (lenK (K := K) rfl) rfl T.z_len PySem.boot_len (pa_cons (pe_slice sl_list (pv 0) po_none (po_some pe_int)) pa_nil (star1 rfl)) (by decide) (by decide) (star1 rfl) (starAll rfl))) pa_nil (star1 rfl))) (pg_name (i := 1) sc_law.nd rfl (Or.inl rfl)) (pss_cons (ps_set (i := 2) sc_law.nd rfl (Or.inl rfl) (pe_call (ok__law_box T) (hr.mono (by decide)) rfl T.m__law_box T.F__law_box.kp (b__law_box T) .nil pass0 (pa_cons (pv 0) (pa_cons (pv 1) pa_nil (star1 rfl)) (star1 rfl)) (by decide) (star1 rfl) (starAll rfl)))
  (pss_cons (ps_set (i := 3) sc_law.nd rfl (Or.inl rfl) (pe_call (ok__law_plan T) (hr.mono (by decide)) rfl T.m__law_plan T.F__law_plan.kp (b__law_plan T) .nil pass0 (pa_cons (pv 2) pa_nil (star1 rfl)) (by decide) (star1 rfl) (starAll rfl)))
  (pss_cons (ps_set (i := 4) sc_law.nd rfl (Or.inl rfl) (pe_call (ok__law_book T) (hr.mono (by decide)) rfl T.m__law_book T.F__law_book.kp (b__law_book T) .nil pass0 (pa_cons (pv 2) (pa_cons (pv 3) pa_nil (star1 rfl)) (star1 rfl)) (by decide) (star1 rfl) (starAll rfl)))
  (pss_cons (ps_par rfl sc_law.nd (i := 5) (j := 6) rfl rfl (by decide) rfl rfl (pa_cons (pe_callB (reprYK (K := K) rfl hG (hu_r hr)) rfl T.z_repr (by decide +kernel) (pa_cons (pe_tup (pa_cons (pv 3) (pa_cons (pv 4) pa_nil (star1 rfl)) (star1 rfl))) pa_nil (star1 rfl)) (by decide) (by decide) (star1 rfl) (starAll rfl)) (pa_cons (pe_make T.mk_House (ok_House___init__ T) (hr.mono (by decide)) rfl T.mc_House (b_House___init__ T) .nil pass0 (pa_cons (pv 3) (pa_cons (pv 4) pa_nil (star1 rfl)) (star1 rfl)) (by decide) (star1 rfl) (starAll rfl)) pa_nil (star1 rfl)) (star1 rfl)) (by rfl))
  (pss_cons (ps_if (PW.pt (pw_or (pt_cmp (pc_notN (pe_meth0 (pv 6) T.cl_House T.mt_House_within (ok_House_within T) (hr.mono (by decide)) (b_House_within T) .nil pass0))) (pw_or (pt_cmpR op_ne (pe_callB (call_lenO (ok_House___len__ T) T.mt_House___len__.at_ T.mt_House___len__.fn (hr.mono (by decide)) (b_House___len__ T) pass0) rfl T.z_len PySem.boot_len (pa_cons (pv 6) pa_nil (star1 rfl)) (by decide) (by decide) (star1 rfl) (starAll rfl)) pe_int (nomark _)) (pw_or1 (pt_cmpR op_ne (pe_callB (reprYK (K := K) rfl hG (hu_r hr)) rfl T.z_repr (by decide +kernel) (pa_cons (pe_tup (pa_cons (pv 3) (pa_cons (pv 4) pa_nil (star1 rfl)) (star1 rfl))) pa_nil (star1 rfl)) (by decide) (by decide) (star1 rfl) (starAll rfl)) (pv 5) (nomark _)))))) (pss_one (ps_ret pe_bl)) pss_nil)
  (pss_one (ps_for PassesOwn.never rfl (plLK (K := K) rfl (pe_call (ok__law_parts T) (hr.mono (by decide)) rfl T.m__law_parts T.F__law_parts.kp (b__law_parts T) .nil pass0 (pa_cons (pv 3) (pa_cons pe_non pa_nil (star1 rfl)) (star1 rfl)) (by decide) (star1 rfl) (starAll rfl))) (pg_tup rfl (pgs_cons (pg_name (i := 7) sc_law.nd rfl (Or.inl rfl)) (pgs_cons (pg_name (i := 8) sc_law.nd rfl (Or.inl rfl)) (pgs_cons (pg_name (i := 9) sc_law.nd rfl (Or.inl rfl)) pgs_nil)))) (pss_cons (ps_set (i := 10) sc_law.nd rfl (Or.inl rfl) (pe_ifExp (pt_cmp (pc_isN (pv 9))) (pe_meth (pv 6) T.cl_House T.mt_House_hand (ok_House_hand T) (hr.mono (by decide)) (b_House_hand T) .nil pass0 (pa_cons (pv 7) pa_nil (star1 rfl)) (star1 rfl) (starAll rfl)) (pe_meth (pv 6) T.cl_House T.mt_House_group (ok_House_group T) (hr.mono (by decide)) (b_House_group T) .nil pass0 (pa_cons (pv 7) pa_nil (star1 rfl)) (star1 rfl) (starAll rfl))))
  (pss_one (ps_if (pt_cmpR op_ne (pe_callB (reprYK (K := K) rfl hG (hu_r hr)) rfl T.z_repr (by decide +kernel) (pa_cons (pv 10) pa_nil (star1 rfl)) (by decide) (by decide) (star1 rfl) (starAll rfl)) (pe_callB (reprYK (K := K) rfl hG (hu_r hr)) rfl T.z_repr (by decide +kernel) (pa_cons (pe_ifExp (pt_cmp (pc_isN (pv 9))) (pe_tup (pa_cons pe_int (pa_cons pe_int (pa_cons pe_str (pa_cons pe_non pa_nil (star1 rfl)) (star1 rfl)) (star1 rfl)) (star1 rfl))) (pe_tup (pa_cons pe_non (pa_cons pe_int (pa_cons (pe_tup pa_nil) pa_nil (star1 rfl)) (star1 rfl)) (star1 rfl)))) pa_nil (star1 rfl)) (by decide) (by decide) (star1 rfl) (starAll rfl)) (nomark _)) (pss_one (ps_ret pe_bl)) pss_nil)))))))))))
  (pss_one (ps_ret pe_bl))), ?_⟩
  refine q_forU ?_
  refine ⟨_, rfl, 4, rfl, a, _, rfl, hS, fun l hl => ⟨l, _, rfl, Or.inl (sq_of upd_same), 1, _, rfl, rfl, _, rfl, by omega, ?_, ?_⟩⟩
  · have := cutV_length (ns.map V.int) none (some 4)
    rw [List.length_map] at this
    omega
  have e0 := Ex.new (o := .lst (cutV (ns.map V.int) none (some 4))) hl
  have hcl : (cutV (ns.map V.int) none (some 4)).length ≤ 62 ∨ (cutV (ns.map V.int) none (some 4)).length ≤ 4 := by
    refine Or.inr ?_
    unfold cutV
    rw [List.length_take]
    have : HT.sIx (ns.map V.int).length (ns.map V.int).length (some 4) ≤ 4 := by
      show HT.sIx _ _ (some ((4 : Nat) : Int)) ≤ 4
      rw [HT.sIx_nat]
      exact Nat.min_le_left _ _
    omega
  generalize cutV (ns.map V.int) none (some 4) = cs at hcl e0
  generalize upd H l (.lst cs) = H0 at e0
  refine rng_turns (fun i σ' H' => Ex H H' ∧ ∃ c1 c2 c3 c4 c5 c6 c7 c8 c9 c10, σ' = [some (.ref a), c1, c2, c3, c4, c5, c6, c7, c8, c9, c10]) ⟨e0, _, _, _, _, _, _, _, _, _, _, rfl⟩ ?_ ?_
  rotate_left
  · intro σ' H1 hP
    exact s_ret ev_c fun H2 e2 => q H2
  intro k σ' H1 hk hP
  obtain ⟨e1, c1, c2, c3, c4, c5, c6, c7, c8, c9, c10, rfl⟩ := hP
  have hk63 : k ≤ 63 := by omega
  -- the box, the plan, the book
  refine q_asgP ?_
  refine ⟨_, rfl, _, rfl, a, ns, k, by first | rfl | simp, ex_l e1 hS, h63, hk63, fun h H2 e2 hh A2 => ?_⟩
  refine q_asgP ?_
  refine ⟨_, rfl, h, 0, rfl, A2, by decide, fun v n b ms H3 A3 k3 tv tok tdp tnd tnm tsz => ?_⟩
  refine q_asgP ?_
  refine ⟨_, rfl, _, rfl, h, v, n, b, ms, _, rfl, A3, by decide, tv, by omega, tsz, tnm, fun bk o xs ds ys H4 A4 k4 hfr hdn tds dl hpm hsd hbk => ?_⟩
  have e14 : Ex H1 H4 := ex_kp (ex_kp e2 hh k3) hh k4
  have tv4 := trv_tk (tk_bx A3 k4) _ _ tv
  have tdb : TD K H4 90000 1300 4 (.ref bk) (.tuple ds) := (TDs.tup (n := 20) tds (Or.inl (Or.inr ⟨o, hfr⟩)) dl).up (by decide) (by decide) (by decide)
  have y4 : Sy K H4 := y0.ex (e1.trans e14)
  -- kept, house
  refine q_parP ?_
  refine ⟨_, rfl, _, rfl, (by show 2 ≤ sizeLine; decide), fun pt hpt => ?_⟩
  have dyP : ∀ {H' : Hp} {t : Addr}, Ex H4 H' → H' t = some (.tup [v, .ref bk]) → Dy K H' (.ref t) (.tuple [(Tr.grp n b ms).dat, .tuple ds]) := fun e ht => .tup (st_of ht) (.cons (dy_mono e (trv_dy _ _ tv4)) (.cons (dy_mono e tdb.dy) .nil))
  obtain ⟨w1, w2, w3, w4⟩ := dat_wt _ tnm tok
  have sh : showsY (.tuple [(Tr.grp n b ms).dat, .tuple ds]) := by
    have z1 := tdb.wt
    have z2 := tdb.dp
    refine shows_of (B := 2 ^ 27) (W := 200000) (D := 60) (by decide) ?_ ?_ ?_ (by decide) (by decide)
    · exact ⟨w4, ok_up (by decide) _ tdb.ok, trivial⟩
    · simp only [wt, wts] at z1 ⊢
      omega
    · simp only [PyData.depth, PyData.depthAll] at z2 ⊢
      omega
  have e5 := Ex.new (o := .tup [v, .ref bk]) hpt
  have h5 : upd H4 pt (.tup [v, .ref bk]) pt = some (.tup [v, .ref bk]) := upd_same
  generalize upd H4 pt (.tup [v, .ref bk]) = H5 at e5 h5
  refine ⟨.ref pt, _, rfl, dyP e5 h5, sh, y4.ex e5, ?_⟩
  refine ⟨_, rfl, _, rfl, fun p dx np ndx ne => ?_⟩
  have np' : upd H5 dx (.own p) p = none := by rw [upd_ne (Ne.symm ne)]; exact np
  have e55 : Ex H5 (upd (upd H5 dx (.own p)) p (.ins T.C_House dx [])) := (Ex.new ndx).trans (Ex.new np')
  have h55 : upd (upd H5 dx (.own p)) p (.ins T.C_House dx []) p = some (.ins T.C_House dx []) := upd_same
  generalize upd (upd H5 dx (.own p)) p (.ins T.C_House dx []) = H55 at e55 h55
  have e455 := e5.trans e55
  refine ⟨p, dx, v, n, b, ms, bk, o, xs, ds, ys, rfl, h55, trv_tk (TK.ex e455) _ _ tv4, tok, by omega, by omega, tnd, tnm, e455 _ _ hfr, hdn, tds.st (ST.ex e455), dl, hpm, hsd, hbk, fun H6 k6 hs6 => ⟨rfl, _, _, rfl, ?_⟩⟩
  have e46 : Ex H4 H6 := e5.trans (ex_kp e55 np k6)
  have hH : ∀ x ∈ (handsOf (.grp n b ms)).map fun x => (x, h0D), isHandD x.2 = true := fun x hx => by
    obtain ⟨y, _, rfl⟩ := List.mem_map.mp hx
    rfl
  have nl := names_len (.grp n b ms)
  rw [List.length_append] at nl
  -- nobody within, none counted, plan and book as they were
  obtain ⟨dx6, fs6, hd6, gd6, ob6, l1, l2, l3, l4, l5, _, _⟩ := hs6.ob
  refine q_ifP ?_
  refine ⟨_, rfl, p, dx6, fs6, rfl, ob6, l5, p, _, _, rfl, hs6, hH, fun H7 e7 => ?_⟩
  rw [first_out]
  refine ⟨_, rfl, iteF' rfl ?_⟩
  refine ⟨_, rfl, p, dx6, fs6, rfl, e7 _ _ ob6, p, _, _, rfl, hs6.ex e7, hH, by rw [List.length_map]; omega, fun H8 e8 => ⟨_, rfl, ⟨by omega, by rw [none_out]; decide⟩, rfl, _, rfl, iteF' (by rw [none_out]; rfl) ?_⟩⟩
  refine ⟨_, rfl, _, rfl, (by show 2 ≤ sizeLine; decide), fun p2 hp2 => ?_⟩
  have e68 := e7.trans e8
  have e9 := Ex.new (o := .tup [v, .ref bk]) hp2
  have h9 : upd H8 p2 (.tup [v, .ref bk]) p2 = some (.tup [v, .ref bk]) := upd_same
  generalize upd H8 p2 (.tup [v, .ref bk]) = H9 at e9 h9
  have e69 := e68.trans e9
  have e49 := e46.trans e69
  refine ⟨.ref p2, _, rfl, dyP e49 h9, sh, y4.ex e49, _, rfl, rfl, _, rfl, ?_⟩
  refine iteF' (by rw [decide_eq_true rfl]; rfl) ?_
  -- each hand, each group
  have hs9 := hs6.ex e69
  refine s_forW ?_
  refine ⟨_, rfl, v, n, b, ms, none, rfl, trv_tk (TK.ex e49) _ _ tv4, by omega, by omega, fun r rxs H10 e10 hr10 h10 rows => ⟨r, rfl, ⟨rxs, sq_of h10⟩, ?_⟩⟩
  have e410 := e49.trans e10
  have hs10 := hs9.ex e10
  refine for_list (K := K) (a := r) (xs := rxs) (fun i σ' H' => Ex H10 H' ∧ ∃ c7 c8 c9 c10, σ' = [some (.ref a), some (.int (0 + (k : Int))), some (.ref h), some v, some (.ref bk), some (.str (PyData.tuple [(Tr.grp n b ms).dat, .tuple ds]).shown), some (.ref p), c7, c8, c9, c10]) ⟨Ex.refl H10, _, _, _, _, rfl⟩ (fun i σ' H' _ hP => sq_of (hP.1 _ _ h10)) ?_ ?_
  · intro i x σ' H11 hx hP
    obtain ⟨e11, c7, c8, c9, c10, rfl⟩ := hP
    obtain ⟨row, hrow, t, rfl, ht⟩ := rows.get hx
    obtain ⟨nm, ar, bd⟩ := row
    refine ⟨t, _, rfl, st_of (e11 _ _ ht), rfl, _, _, rfl, _, _, rfl, _, _, rfl, rfl, ?_⟩
    refine q_asgP ?_
    have hs11 := hs10.ex e11
    have y11 : Sy K H11 := y4.ex (e410.trans e11)
    obtain ⟨dxq, fsq, _, _, obq, _, _, l3q, l4q, _, _, _⟩ := hs11.ob
    cases bd with
    | none =>
      have hin : nm ∈ handsOf (.grp n b ms) := by
        unfold handsOf
        rw [← parts_hands _ none []]
        exact List.mem_map.mpr ⟨_, List.mem_filter.mpr ⟨List.mem_of_getElem? hrow, rfl⟩, rfl⟩
      refine ⟨_, rfl, _, rfl, iteT' rfl ?_⟩
      refine ⟨_, rfl, p, dxq, fsq, rfl, obq, l3q, _, rfl, p, nm, _, _, h0D, rfl, hs11, atN_map hin, fun fv H12 e12 td => ?_⟩
      refine s_ifP ?_
      refine ⟨_, rfl, fv, h0D, rfl, td.dy, td_sh td (by decide) (by decide), y11.ex e12, ?_⟩
      refine ⟨_, rfl, _, rfl, iteT' rfl ⟨(by show 4 ≤ sizeLine; decide), fun t2 ht2 => ?_⟩⟩
      have e13 := Ex.new (o := .tup [.int 0, .int 0, .str "out", .non]) ht2
      have h13 : upd H12 t2 (.tup [.int 0, .int 0, .str "out", .non]) t2 = some (.tup [.int 0, .int 0, .str "out", .non]) := upd_same
      generalize upd H12 t2 (.tup [.int 0, .int 0, .str "out", .non]) = H13 at e13 h13
      have td2 := h0_td (K := K) h13
      refine ⟨.ref t2, h0D, rfl, td2.dy, td_sh td2 (by decide) (by decide), y11.ex (e12.trans e13), rfl, _, rfl, iteF' (by rw [decide_eq_true rfl]; rfl) ?_⟩
      exact ⟨(e11.trans e12).trans e13, _, _, _, _, rfl⟩
    | some bb =>
      have hin : nm ∈ groupsOf (.grp n b ms) := by
        unfold groupsOf
        rw [← parts_groups _ none []]
        exact List.mem_map.mpr ⟨_, List.mem_filter.mpr ⟨List.mem_of_getElem? hrow, rfl⟩, rfl⟩
      refine ⟨_, rfl, _, rfl, iteF' rfl ?_⟩
      refine ⟨_, rfl, p, dxq, fsq, rfl, obq, l4q, _, rfl, p, nm, _, _, g0D, rfl, hs11, atN_map hin, fun fv H12 e12 td => ?_⟩
      refine s_ifP ?_
      refine ⟨_, rfl, fv, g0D, rfl, td.dy, td_sh td (by decide) (by decide), y11.ex e12, ?_⟩
      refine ⟨_, rfl, _, rfl, iteF' rfl ⟨(by show 0 ≤ sizeLine; decide), fun t0 ht0 => ⟨(by show 3 ≤ sizeLine; decide), fun t2 ht2 => ?_⟩⟩⟩
      have e13 := (Ex.new (o := .tup []) ht0).trans (Ex.new (o := .tup [.non, .int 0, .ref t0]) ht2)
      have h0' : upd (upd H12 t0 (.tup [])) t2 (.tup [.non, .int 0, .ref t0]) t0 = some (.tup []) := (Ex.new ht2) _ _ upd_same
      have h13 : upd (upd H12 t0 (.tup [])) t2 (.tup [.non, .int 0, .ref t0]) t2 = some (.tup [.non, .int 0, .ref t0]) := upd_same
      generalize upd (upd H12 t0 (.tup [])) t2 (.tup [.non, .int 0, .ref t0]) = H13 at e13 h13 h0'
      have td2 := g0_td (K := K) h0' h13
      refine ⟨.ref t2, g0D, rfl, td2.dy, td_sh td2 (by decide) (by decide), y11.ex (e12.trans e13), rfl, _, rfl, iteF' (by rw [decide_eq_true rfl]; rfl) ?_⟩
      exact ⟨(e11.trans e12).trans e13, _, _, _, _, rfl⟩
  · intro σ' H11 hP
    obtain ⟨e11, c7, c8, c9, c10, rfl⟩ := hP
    exact ⟨(e1.trans e14).trans (e410.trans e11), _, _, _, _, _, _, _, _, _, _, rfl⟩
end

/-! ### the table of forms -/
theorem ktab6 {K : PySem.W.Frag} {w : World} {a : Addr} {e1 e2 e3 e4 e5 e6 : DictEntry} {n : Nat} {t1 t2 t3 t4 t5 t6 : Tok} {f1 f2 f3 f4 f5 f6 : Addr} (l : K.lookup a = some ⟨.type "dict", none, .dict #[e1, e2, e3, e4, e5, e6] n, #[]⟩)
    (kl : PySem.W.KeysLit w.params [e1, e2, e3, e4, e5, e6]) (low : (a == sysModules) = false) (k1 : e1.key = .str "take" t1) (k2 : e2.key = .str "try" t2) (k3 : e3.key = .str "let" t3) (k4 : e4.key = .str "say" t4) (k5 : e5.key = .str "goto" t5) (k6 : e6.key = .str "if" t6)
    (v1 : e1.val = .ref f1) (v2 : e2.val = .ref f2) (v3 : e3.val = .ref f3) (v4 : e4.val = .ref f4) (v5 : e5.val = .ref f5) (v6 : e6.val = .ref f6) :
    KTab K w a (fun z => if z = "take" then some (.ref f1) else if z = "try" then some (.ref f2) else if z = "let" then some (.ref f3) else if z = "say" then some (.ref f4) else if z = "goto" then some (.ref f5) else if z = "if" then some (.ref f6) else none) := by
  refine ⟨_, _, l, kl, low, fun z => ?_⟩
  have s : ∀ (x z : Str) (t : Tok), (Value.str x t).isStr z = decide (z = x) := fun x z t => by
    show (x == z) = decide (z = x)
    by_cases h : z = x
    · rw [h, decide_eq_true rfl, beq_self_eq_true]
    · rw [decide_eq_false h]
      exact beq_eq_false_iff_ne.mpr (Ne.symm h)
  unfold PySem.W.nsIn
  rw [l]
  simp only [List.find?_cons, List.find?_nil, k1, k2, k3, k4, k5, k6, s]
  by_cases n1 : z = "take"
  · rw [decide_eq_true n1, if_pos n1]
    show some (some e1.val) = some (some (.ref f1))
    rw [v1]
  by_cases n2 : z = "try"
  · rw [decide_eq_false n1, decide_eq_true n2, if_neg n1, if_pos n2]
    show some (some e2.val) = some (some (.ref f2))
    rw [v2]
  by_cases n3 : z = "let"
  · rw [decide_eq_false n1, decide_eq_false n2, decide_eq_true n3, if_neg n1, if_neg n2, if_pos n3]
    show some (some e3.val) = some (some (.ref f3))
    rw [v3]
  by_cases n4 : z = "say"
  · rw [decide_eq_false n1, decide_eq_false n2, decide_eq_false n3, decide_eq_true n4, if_neg n1, if_neg n2, if_neg n3, if_pos n4]
    show some (some e4.val) = some (some (.ref f4))
    rw [v4]
  by_cases n5 : z = "goto"
  · rw [decide_eq_false n1, decide_eq_false n2, decide_eq_false n3, decide_eq_false n4, decide_eq_true n5, if_neg n1, if_neg n2, if_neg n3, if_neg n4, if_pos n5]
    show some (some e5.val) = some (some (.ref f5))
    rw [v5]
  by_cases n6 : z = "if"
  · rw [decide_eq_false n1, decide_eq_false n2, decide_eq_false n3, decide_eq_false n4, decide_eq_false n5, decide_eq_true n6, if_neg n1, if_neg n2, if_neg n3, if_neg n4, if_neg n5, if_pos n6]
    show some (some e6.val) = some (some (.ref f6))
    rw [v6]
  rw [decide_eq_false n1, decide_eq_false n2, decide_eq_false n3, decide_eq_false n4, decide_eq_false n5, decide_eq_false n6, if_neg n1, if_neg n2, if_neg n3, if_neg n4, if_neg n5, if_neg n6]
  simp only [List.any_cons, List.any_nil, DictEntry.refKey, k1, k2, k3, k4, k5, k6]
  rfl
theorem all_mk {l : PySem.W.OpenLaw} {w : World} {K : PySem.W.Frag} {h : Heap} {mg : Str → Option Value} {fa f0 f1 f2 f3 f4 f5 f6 f7 f8 f9 f10 f11 f12 f13 f14 f15 f16 f17 f18 f19 f20 f21 f22 f23 f24 f25 f26 f27 f28 f29 f30 f31 f32 f33 f34 f35 f36 f37 f38 f39 : Addr} {C_House : Addr} (X : K.In h) (G : h.Ns mainGlobals mg) (hfa : mg "law" = some (.ref fa))
    {od0 an0 od1 an1 od2 an2 od3 an3 od4 an4 od5 an5 od6 an6 od7 an7 od8 an8 od9 an9 od10 an10 od11 an11 od12 an12 od13 an13 od14 an14 od15 an15 od16 an16 od17 an17 od18 an18 od19 an19 od20 an20 od21 an21 od22 an22 od23 an23 od24 an24 od25 an25 od26 an26 od27 an27 od28 an28 od29 an29 od30 an30 od31 an31 od32 an32 od33 an33 od34 an34 od35 an35 od36 an36 od37 an37 od38 an38 od39 an39 : Option Addr} {sl0 sl1 sl2 sl3 sl4 sl5 sl6 sl7 sl8 sl9 sl10 sl11 sl12 sl13 sl14 sl15 sl16 sl17 sl18 sl19 sl20 sl21 sl22 sl23 sl24 sl25 sl26 sl27 sl28 sl29 sl30 sl31 sl32 sl33 sl34 sl35 sl36 sl37 sl38 sl39 : Array (Option Value)} {oc0 kV0 dc0 pm0 cd0 ct0 oc1 kV1 dc1 pm1 cd1 ct1 oc2 kV2 dc2 pm2 cd2 ct2 oc3 kV3 dc3 pm3 cd3 ct3 oc4 kV4 dc4 pm4 cd4 ct4 oc5 kV5 dc5 pm5 cd5 ct5 oc6 kV6 dc6 pm6 cd6 ct6 oc7 kV7 dc7 pm7 cd7 ct7 oc8 kV8 dc8 pm8 cd8 ct8 oc9 kV9 dc9 pm9 cd9 ct9 oc10 kV10 dc10 pm10 cd10 ct10 oc11 kV11 dc11 pm11 cd11 ct11 oc12 kV12 dc12 pm12 cd12 ct12 oc13 kV13 dc13 pm13 cd13 ct13 oc14 kV14 dc14 pm14 cd14 ct14 oc15 kV15 dc15 pm15 cd15 ct15 oc16 kV16 dc16 pm16 cd16 ct16 oc17 kV17 dc17 pm17 cd17 ct17 oc18 kV18 dc18 pm18 cd18 ct18 oc19 kV19 dc19 pm19 cd19 ct19 oc20 kV20 dc20 pm20 cd20 ct20 oc21 kV21 dc21 pm21 cd21 ct21 oc22 kV22 dc22 pm22 cd22 ct22 oc23 kV23 dc23 pm23 cd23 ct23 oc24 kV24 dc24 pm24 cd24 ct24 oc25 kV25 dc25 pm25 cd25 ct25 oc26 kV26 dc26 pm26 cd26 ct26 oc27 kV27 dc27 pm27 cd27 ct27 oc28 kV28 dc28 pm28 cd28 ct28 oc29 kV29 dc29 pm29 cd29 ct29 oc30 kV30 dc30 pm30 cd30 ct30 oc31 kV31 dc31 pm31 cd31 ct31 oc32 kV32 dc32 pm32 cd32 ct32 oc33 kV33 dc33 pm33 cd33 ct33 oc34 kV34 dc34 pm34 cd34 ct34 oc35 kV35 dc35 pm35 cd35 ct35 oc36 kV36 dc36 pm36 cd36 ct36 oc37 kV37 dc37 pm37 cd37 ct37 oc38 kV38 dc38 pm38 cd38 ct38 oc39 kV39 dc39 pm39 cd39 ct39 : Value}
    (aC_House : PySem.W.nsIn K mainGlobals "House" = some (some (.ref C_House))) (pg_House : PySem.W.plainGet K C_House Str.empty = true) (hd_House : PySem.W.hasDictIn K C_House = true) (po_House : PySem.W.plainOver K C_House = true) (sa_House : PySem.W.findIn K (.ref C_House) "__setattr__" = some (some (.builtin "object.__setattr__"))) (mk_House : PySem.W.makesIn K C_House = true) (kc_House : PySem.W.keepIn K (.ref C_House) = true)
    (na_House_plan : PySem.W.findIn K (.ref C_House) "plan" = some none)
    (na_House_book : PySem.W.findIn K (.ref C_House) "book" = some none)
    (na_House_paths : PySem.W.findIn K (.ref C_House) "paths" = some none)
    (na_House_bounds : PySem.W.findIn K (.ref C_House) "bounds" = some none)
    (na_House_programs : PySem.W.findIn K (.ref C_House) "programs" = some none)
    (na_House_hands : PySem.W.findIn K (.ref C_House) "hands" = some none)
    (na_House_groups : PySem.W.findIn K (.ref C_House) "groups" = some none)
    (a0 : PySem.W.nsIn K mainGlobals "within_of" = some (some (.ref f0))) (l0 : K.lookup f0 = some ⟨oc0, od0, .func (PySem.W.fnOf "within_of" "within_of" (defArgs s_within_of) (defBody s_within_of) (defScope s_within_of) .none kV0 dc0 pm0 an0 cd0 ct0), sl0⟩) (c0 : PySem.W.codeIn K cd0 "within_of" = true) (k0 : PySem.W.keepIn K (.ref f0) = true)
    (a1 : PySem.W.nsIn K mainGlobals "is_whole" = some (some (.ref f1))) (l1 : K.lookup f1 = some ⟨oc1, od1, .func (PySem.W.fnOf "is_whole" "is_whole" (defArgs s_is_whole) (defBody s_is_whole) (defScope s_is_whole) .none kV1 dc1 pm1 an1 cd1 ct1), sl1⟩) (c1 : PySem.W.codeIn K cd1 "is_whole" = true) (k1 : PySem.W.keepIn K (.ref f1) = true)
    (a2 : PySem.W.nsIn K mainGlobals "is_whole_from" = some (some (.ref f2))) (l2 : K.lookup f2 = some ⟨oc2, od2, .func (PySem.W.fnOf "is_whole_from" "is_whole_from" (defArgs s_is_whole_from) (defBody s_is_whole_from) (defScope s_is_whole_from) .none kV2 dc2 pm2 an2 cd2 ct2), sl2⟩) (c2 : PySem.W.codeIn K cd2 "is_whole_from" = true) (k2 : PySem.W.keepIn K (.ref f2) = true)
    (a3 : PySem.W.nsIn K mainGlobals "is_tuple_of" = some (some (.ref f3))) (l3 : K.lookup f3 = some ⟨oc3, od3, .func (PySem.W.fnOf "is_tuple_of" "is_tuple_of" (defArgs s_is_tuple_of) (defBody s_is_tuple_of) (defScope s_is_tuple_of) .none kV3 dc3 pm3 an3 cd3 ct3), sl3⟩) (c3 : PySem.W.codeIn K cd3 "is_tuple_of" = true) (k3 : PySem.W.keepIn K (.ref f3) = true)
    (a4 : PySem.W.nsIn K mainGlobals "is_known" = some (some (.ref f4))) (l4 : K.lookup f4 = some ⟨oc4, od4, .func (PySem.W.fnOf "is_known" "is_known" (defArgs s_is_known) (defBody s_is_known) (defScope s_is_known) .none kV4 dc4 pm4 an4 cd4 ct4), sl4⟩) (c4 : PySem.W.codeIn K cd4 "is_known" = true) (k4 : PySem.W.keepIn K (.ref f4) = true)
    (a5 : PySem.W.nsIn K mainGlobals "is_letters" = some (some (.ref f5))) (l5 : K.lookup f5 = some ⟨oc5, od5, .func (PySem.W.fnOf "is_letters" "is_letters" (defArgs s_is_letters) (defBody s_is_letters) (defScope s_is_letters) .none kV5 dc5 pm5 an5 cd5 ct5), sl5⟩) (c5 : PySem.W.codeIn K cd5 "is_letters" = true) (k5 : PySem.W.keepIn K (.ref f5) = true)
    (a6 : PySem.W.nsIn K mainGlobals "is_name" = some (some (.ref f6))) (l6 : K.lookup f6 = some ⟨oc6, od6, .func (PySem.W.fnOf "is_name" "is_name" (defArgs s_is_name) (defBody s_is_name) (defScope s_is_name) .none kV6 dc6 pm6 an6 cd6 ct6), sl6⟩) (c6 : PySem.W.codeIn K cd6 "is_name" = true) (k6 : PySem.W.keepIn K (.ref f6) = true)
    (a7 : PySem.W.nsIn K mainGlobals "is_plan" = some (some (.ref f7))) (l7 : K.lookup f7 = some ⟨oc7, od7, .func (PySem.W.fnOf "is_plan" "is_plan" (defArgs s_is_plan) (defBody s_is_plan) (defScope s_is_plan) .none kV7 dc7 pm7 an7 cd7 ct7), sl7⟩) (c7 : PySem.W.codeIn K cd7 "is_plan" = true) (k7 : PySem.W.keepIn K (.ref f7) = true)
    (a8 : PySem.W.nsIn K mainGlobals "member_fits" = some (some (.ref f8))) (l8 : K.lookup f8 = some ⟨oc8, od8, .func (PySem.W.fnOf "member_fits" "member_fits" (defArgs s_member_fits) (defBody s_member_fits) (defScope s_member_fits) .none kV8 dc8 pm8 an8 cd8 ct8), sl8⟩) (c8 : PySem.W.codeIn K cd8 "member_fits" = true) (k8 : PySem.W.keepIn K (.ref f8) = true)
    (a9 : PySem.W.nsIn K mainGlobals "has_group_form" = some (some (.ref f9))) (l9 : K.lookup f9 = some ⟨oc9, od9, .func (PySem.W.fnOf "has_group_form" "has_group_form" (defArgs s_has_group_form) (defBody s_has_group_form) (defScope s_has_group_form) .none kV9 dc9 pm9 an9 cd9 ct9), sl9⟩) (c9 : PySem.W.codeIn K cd9 "has_group_form" = true) (k9 : PySem.W.keepIn K (.ref f9) = true)
    (a10 : PySem.W.nsIn K mainGlobals "hands_of" = some (some (.ref f10))) (l10 : K.lookup f10 = some ⟨oc10, od10, .func (PySem.W.fnOf "hands_of" "hands_of" (defArgs s_hands_of) (defBody s_hands_of) (defScope s_hands_of) .none kV10 dc10 pm10 an10 cd10 ct10), sl10⟩) (c10 : PySem.W.codeIn K cd10 "hands_of" = true) (k10 : PySem.W.keepIn K (.ref f10) = true)
    (a11 : PySem.W.nsIn K mainGlobals "groups_of" = some (some (.ref f11))) (l11 : K.lookup f11 = some ⟨oc11, od11, .func (PySem.W.fnOf "groups_of" "groups_of" (defArgs s_groups_of) (defBody s_groups_of) (defScope s_groups_of) .none kV11 dc11 pm11 an11 cd11 ct11), sl11⟩) (c11 : PySem.W.codeIn K cd11 "groups_of" = true) (k11 : PySem.W.keepIn K (.ref f11) = true)
    (a12 : PySem.W.nsIn K mainGlobals "bounds_of" = some (some (.ref f12))) (l12 : K.lookup f12 = some ⟨oc12, od12, .func (PySem.W.fnOf "bounds_of" "bounds_of" (defArgs s_bounds_of) (defBody s_bounds_of) (defScope s_bounds_of) .none kV12 dc12 pm12 an12 cd12 ct12), sl12⟩) (c12 : PySem.W.codeIn K cd12 "bounds_of" = true) (k12 : PySem.W.keepIn K (.ref f12) = true)
    (a13 : PySem.W.nsIn K mainGlobals "all_in" = some (some (.ref f13))) (l13 : K.lookup f13 = some ⟨oc13, od13, .func (PySem.W.fnOf "all_in" "all_in" (defArgs s_all_in) (defBody s_all_in) (defScope s_all_in) .none kV13 dc13 pm13 an13 cd13 ct13), sl13⟩) (c13 : PySem.W.codeIn K cd13 "all_in" = true) (k13 : PySem.W.keepIn K (.ref f13) = true)
    (a14 : PySem.W.nsIn K mainGlobals "all_from" = some (some (.ref f14))) (l14 : K.lookup f14 = some ⟨oc14, od14, .func (PySem.W.fnOf "all_from" "all_from" (defArgs s_all_from) (defBody s_all_from) (defScope s_all_from) .none kV14 dc14 pm14 an14 cd14 ct14), sl14⟩) (c14 : PySem.W.codeIn K cd14 "all_from" = true) (k14 : PySem.W.keepIn K (.ref f14) = true)
    (a15 : PySem.W.nsIn K mainGlobals "is_row_number" = some (some (.ref f15))) (l15 : K.lookup f15 = some ⟨oc15, od15, .func (PySem.W.fnOf "is_row_number" "is_row_number" (defArgs s_is_row_number) (defBody s_is_row_number) (defScope s_is_row_number) .none kV15 dc15 pm15 an15 cd15 ct15), sl15⟩) (c15 : PySem.W.codeIn K cd15 "is_row_number" = true) (k15 : PySem.W.keepIn K (.ref f15) = true)
    (a16 : PySem.W.nsIn K mainGlobals "word_fits" = some (some (.ref f16))) (l16 : K.lookup f16 = some ⟨oc16, od16, .func (PySem.W.fnOf "word_fits" "word_fits" (defArgs s_word_fits) (defBody s_word_fits) (defScope s_word_fits) .none kV16 dc16 pm16 an16 cd16 ct16), sl16⟩) (c16 : PySem.W.codeIn K cd16 "word_fits" = true) (k16 : PySem.W.keepIn K (.ref f16) = true)
    (a17 : PySem.W.nsIn K mainGlobals "take_fits" = some (some (.ref f17))) (l17 : K.lookup f17 = some ⟨oc17, od17, .func (PySem.W.fnOf "take_fits" "take_fits" (defArgs s_take_fits) (defBody s_take_fits) (defScope s_take_fits) .none kV17 dc17 pm17 an17 cd17 ct17), sl17⟩) (c17 : PySem.W.codeIn K cd17 "take_fits" = true) (k17 : PySem.W.keepIn K (.ref f17) = true)
    (a18 : PySem.W.nsIn K mainGlobals "say_fits" = some (some (.ref f18))) (l18 : K.lookup f18 = some ⟨oc18, od18, .func (PySem.W.fnOf "say_fits" "say_fits" (defArgs s_say_fits) (defBody s_say_fits) (defScope s_say_fits) .none kV18 dc18 pm18 an18 cd18 ct18), sl18⟩) (c18 : PySem.W.codeIn K cd18 "say_fits" = true) (k18 : PySem.W.keepIn K (.ref f18) = true)
    (a19 : PySem.W.nsIn K mainGlobals "goto_fits" = some (some (.ref f19))) (l19 : K.lookup f19 = some ⟨oc19, od19, .func (PySem.W.fnOf "goto_fits" "goto_fits" (defArgs s_goto_fits) (defBody s_goto_fits) (defScope s_goto_fits) .none kV19 dc19 pm19 an19 cd19 ct19), sl19⟩) (c19 : PySem.W.codeIn K cd19 "goto_fits" = true) (k19 : PySem.W.keepIn K (.ref f19) = true)
    (a20 : PySem.W.nsIn K mainGlobals "if_fits" = some (some (.ref f20))) (l20 : K.lookup f20 = some ⟨oc20, od20, .func (PySem.W.fnOf "if_fits" "if_fits" (defArgs s_if_fits) (defBody s_if_fits) (defScope s_if_fits) .none kV20 dc20 pm20 an20 cd20 ct20), sl20⟩) (c20 : PySem.W.codeIn K cd20 "if_fits" = true) (k20 : PySem.W.keepIn K (.ref f20) = true)
    (a21 : PySem.W.nsIn K mainGlobals "is_program" = some (some (.ref f21))) (l21 : K.lookup f21 = some ⟨oc21, od21, .func (PySem.W.fnOf "is_program" "is_program" (defArgs s_is_program) (defBody s_is_program) (defScope s_is_program) .none kV21 dc21 pm21 an21 cd21 ct21), sl21⟩) (c21 : PySem.W.codeIn K cd21 "is_program" = true) (k21 : PySem.W.keepIn K (.ref f21) = true)
    (a22 : PySem.W.nsIn K mainGlobals "row_fits" = some (some (.ref f22))) (l22 : K.lookup f22 = some ⟨oc22, od22, .func (PySem.W.fnOf "row_fits" "row_fits" (defArgs s_row_fits) (defBody s_row_fits) (defScope s_row_fits) .none kV22 dc22 pm22 an22 cd22 ct22), sl22⟩) (c22 : PySem.W.codeIn K cd22 "row_fits" = true) (k22 : PySem.W.keepIn K (.ref f22) = true)
    (a23 : PySem.W.nsIn K mainGlobals "is_book" = some (some (.ref f23))) (l23 : K.lookup f23 = some ⟨oc23, od23, .func (PySem.W.fnOf "is_book" "is_book" (defArgs s_is_book) (defBody s_is_book) (defScope s_is_book) .none kV23 dc23 pm23 an23 cd23 ct23), sl23⟩) (c23 : PySem.W.codeIn K cd23 "is_book" = true) (k23 : PySem.W.keepIn K (.ref f23) = true)
    (a24 : PySem.W.nsIn K mainGlobals "pair_fits" = some (some (.ref f24))) (l24 : K.lookup f24 = some ⟨oc24, od24, .func (PySem.W.fnOf "pair_fits" "pair_fits" (defArgs s_pair_fits) (defBody s_pair_fits) (defScope s_pair_fits) .none kV24 dc24 pm24 an24 cd24 ct24), sl24⟩) (c24 : PySem.W.codeIn K cd24 "pair_fits" = true) (k24 : PySem.W.keepIn K (.ref f24) = true)
    (a25 : PySem.W.nsIn K mainGlobals "_law_box" = some (some (.ref f25))) (l25 : K.lookup f25 = some ⟨oc25, od25, .func (PySem.W.fnOf "_law_box" "_law_box" (defArgs s__law_box) (defBody s__law_box) (defScope s__law_box) .none kV25 dc25 pm25 an25 cd25 ct25), sl25⟩) (c25 : PySem.W.codeIn K cd25 "_law_box" = true) (k25 : PySem.W.keepIn K (.ref f25) = true)
    (a26 : PySem.W.nsIn K mainGlobals "_law_take" = some (some (.ref f26))) (l26 : K.lookup f26 = some ⟨oc26, od26, .func (PySem.W.fnOf "_law_take" "_law_take" (defArgs s__law_take) (defBody s__law_take) (defScope s__law_take) .none kV26 dc26 pm26 an26 cd26 ct26), sl26⟩) (c26 : PySem.W.codeIn K cd26 "_law_take" = true) (k26 : PySem.W.keepIn K (.ref f26) = true)
    (a27 : PySem.W.nsIn K mainGlobals "_law_group" = some (some (.ref f27))) (l27 : K.lookup f27 = some ⟨oc27, od27, .func (PySem.W.fnOf "_law_group" "_law_group" (defArgs s__law_group) (defBody s__law_group) (defScope s__law_group) .none kV27 dc27 pm27 an27 cd27 ct27), sl27⟩) (c27 : PySem.W.codeIn K cd27 "_law_group" = true) (k27 : PySem.W.keepIn K (.ref f27) = true)
    (a28 : PySem.W.nsIn K mainGlobals "_law_plan" = some (some (.ref f28))) (l28 : K.lookup f28 = some ⟨oc28, od28, .func (PySem.W.fnOf "_law_plan" "_law_plan" (defArgs s__law_plan) (defBody s__law_plan) (defScope s__law_plan) .none kV28 dc28 pm28 an28 cd28 ct28), sl28⟩) (c28 : PySem.W.codeIn K cd28 "_law_plan" = true) (k28 : PySem.W.keepIn K (.ref f28) = true)
    (a29 : PySem.W.nsIn K mainGlobals "_law_parts" = some (some (.ref f29))) (l29 : K.lookup f29 = some ⟨oc29, od29, .func (PySem.W.fnOf "_law_parts" "_law_parts" (defArgs s__law_parts) (defBody s__law_parts) (defScope s__law_parts) .none kV29 dc29 pm29 an29 cd29 ct29), sl29⟩) (c29 : PySem.W.codeIn K cd29 "_law_parts" = true) (k29 : PySem.W.keepIn K (.ref f29) = true)
    (a30 : PySem.W.nsIn K mainGlobals "_law_hands" = some (some (.ref f30))) (l30 : K.lookup f30 = some ⟨oc30, od30, .func (PySem.W.fnOf "_law_hands" "_law_hands" (defArgs s__law_hands) (defBody s__law_hands) (defScope s__law_hands) .none kV30 dc30 pm30 an30 cd30 ct30), sl30⟩) (c30 : PySem.W.codeIn K cd30 "_law_hands" = true) (k30 : PySem.W.keepIn K (.ref f30) = true)
    (a31 : PySem.W.nsIn K mainGlobals "_law_row" = some (some (.ref f31))) (l31 : K.lookup f31 = some ⟨oc31, od31, .func (PySem.W.fnOf "_law_row" "_law_row" (defArgs s__law_row) (defBody s__law_row) (defScope s__law_row) .none kV31 dc31 pm31 an31 cd31 ct31), sl31⟩) (c31 : PySem.W.codeIn K cd31 "_law_row" = true) (k31 : PySem.W.keepIn K (.ref f31) = true)
    (a32 : PySem.W.nsIn K mainGlobals "_law_program" = some (some (.ref f32))) (l32 : K.lookup f32 = some ⟨oc32, od32, .func (PySem.W.fnOf "_law_program" "_law_program" (defArgs s__law_program) (defBody s__law_program) (defScope s__law_program) .none kV32 dc32 pm32 an32 cd32 ct32), sl32⟩) (c32 : PySem.W.codeIn K cd32 "_law_program" = true) (k32 : PySem.W.keepIn K (.ref f32) = true)
    (a33 : PySem.W.nsIn K mainGlobals "_law_book" = some (some (.ref f33))) (l33 : K.lookup f33 = some ⟨oc33, od33, .func (PySem.W.fnOf "_law_book" "_law_book" (defArgs s__law_book) (defBody s__law_book) (defScope s__law_book) .none kV33 dc33 pm33 an33 cd33 ct33), sl33⟩) (c33 : PySem.W.codeIn K cd33 "_law_book" = true) (k33 : PySem.W.keepIn K (.ref f33) = true)
    (a34 : PySem.W.nsIn K mainGlobals "law" = some (some (.ref f34))) (l34 : K.lookup f34 = some ⟨oc34, od34, .func (PySem.W.fnOf "law" "law" (defArgs s_law) (defBody s_law) (defScope s_law) .none kV34 dc34 pm34 an34 cd34 ct34), sl34⟩) (c34 : PySem.W.codeIn K cd34 "law" = true) (k34 : PySem.W.keepIn K (.ref f34) = true)
    (a35 : PySem.W.findIn K (.ref C_House) "__init__" = some (some (.ref f35))) (i35 : PySem.W.isFn K (.ref f35) = true) (l35 : K.lookup f35 = some ⟨oc35, od35, .func (PySem.W.fnOf "__init__" "House.__init__" (defArgs s_House___init__) (defBody s_House___init__) (defScope s_House___init__) .none kV35 dc35 pm35 an35 cd35 ct35), sl35⟩) (c35 : PySem.W.codeIn K cd35 "House.__init__" = true) (k35 : PySem.W.keepIn K (.ref f35) = true)
    (a36 : PySem.W.findIn K (.ref C_House) "hand" = some (some (.ref f36))) (i36 : PySem.W.isFn K (.ref f36) = true) (l36 : K.lookup f36 = some ⟨oc36, od36, .func (PySem.W.fnOf "hand" "House.hand" (defArgs s_House_hand) (defBody s_House_hand) (defScope s_House_hand) .none kV36 dc36 pm36 an36 cd36 ct36), sl36⟩) (c36 : PySem.W.codeIn K cd36 "House.hand" = true) (k36 : PySem.W.keepIn K (.ref f36) = true)
    (a37 : PySem.W.findIn K (.ref C_House) "group" = some (some (.ref f37))) (i37 : PySem.W.isFn K (.ref f37) = true) (l37 : K.lookup f37 = some ⟨oc37, od37, .func (PySem.W.fnOf "group" "House.group" (defArgs s_House_group) (defBody s_House_group) (defScope s_House_group) .none kV37 dc37 pm37 an37 cd37 ct37), sl37⟩) (c37 : PySem.W.codeIn K cd37 "House.group" = true) (k37 : PySem.W.keepIn K (.ref f37) = true)
    (a38 : PySem.W.findIn K (.ref C_House) "within" = some (some (.ref f38))) (i38 : PySem.W.isFn K (.ref f38) = true) (l38 : K.lookup f38 = some ⟨oc38, od38, .func (PySem.W.fnOf "within" "House.within" (defArgs s_House_within) (defBody s_House_within) (defScope s_House_within) .none kV38 dc38 pm38 an38 cd38 ct38), sl38⟩) (c38 : PySem.W.codeIn K cd38 "House.within" = true) (k38 : PySem.W.keepIn K (.ref f38) = true)
    (a39 : PySem.W.findIn K (.ref C_House) "__len__" = some (some (.ref f39))) (i39 : PySem.W.isFn K (.ref f39) = true) (l39 : K.lookup f39 = some ⟨oc39, od39, .func (PySem.W.fnOf "__len__" "House.__len__" (defArgs s_House___len__) (defBody s_House___len__) (defScope s_House___len__) .none kV39 dc39 pm39 an39 cd39 ct39), sl39⟩) (c39 : PySem.W.codeIn K cd39 "House.__len__" = true) (k39 : PySem.W.keepIn K (.ref f39) = true)
    (z0 : PySem.W.nsIn K mainGlobals "abs" = some none)
    (z1 : PySem.W.nsIn K mainGlobals "all" = some none)
    (z2 : PySem.W.nsIn K mainGlobals "bool" = some none)
    (z3 : PySem.W.nsIn K mainGlobals "dict" = some none)
    (z4 : PySem.W.nsIn K mainGlobals "int" = some none)
    (z5 : PySem.W.nsIn K mainGlobals "isinstance" = some none)
    (z6 : PySem.W.nsIn K mainGlobals "len" = some none)
    (z7 : PySem.W.nsIn K mainGlobals "range" = some none)
    (z8 : PySem.W.nsIn K mainGlobals "repr" = some none)
    (z9 : PySem.W.nsIn K mainGlobals "sorted" = some none)
    (z10 : PySem.W.nsIn K mainGlobals "str" = some none)
    (z11 : PySem.W.nsIn K mainGlobals "tuple" = some none)
    (z12 : PySem.W.nsIn K mainGlobals "zip" = some none)
    {tL tN tB : Tok} (cL : PySem.W.nsIn K mainGlobals "LETTERS" = some (some (.str "abcdefghijklmnopqrstuvwxyz" tL))) (cN : PySem.W.nsIn K mainGlobals "LONGEST_NAME" = some (some (.int 8 tN))) (cB : PySem.W.nsIn K mainGlobals "LEAST_BOUND" = some (some (.int 1 tB)))
    {tM : Tok} (cM : PySem.W.nsIn K mainGlobals "MOST_SAID" = some (some (.int 99 tM))) {aF : Addr} {e1 e2 e3 e4 e5 e6 : DictEntry} {nF : Nat} {t1 t2 t3 t4 t5 t6 : Tok} (cF : PySem.W.nsIn K mainGlobals "FORMS" = some (some (.ref aF)))
    (lF : K.lookup aF = some ⟨.type "dict", none, .dict #[e1, e2, e3, e4, e5, e6] nF, #[]⟩) (kF : PySem.W.KeysLit w.params [e1, e2, e3, e4, e5, e6]) (lowF : (aF == sysModules) = false)
    (q1 : e1.key = .str "take" t1) (q2 : e2.key = .str "try" t2) (q3 : e3.key = .str "let" t3) (q4 : e4.key = .str "say" t4) (q5 : e5.key = .str "goto" t5) (q6 : e6.key = .str "if" t6)
    (v1 : e1.val = .ref f17) (v2 : e2.val = .ref f16) (v3 : e3.val = .ref f16) (v4 : e4.val = .ref f18) (v5 : e5.val = .ref f19) (v6 : e6.val = .ref f20) (nd : [f17, f16, f18, f19, f20].Nodup) :
    ∃ fd : FuncData, (∀ (s : Shared) (v : Value), BindsTo s fd ⟨[v], []⟩ [("_law_script", v)]) ∧ ∀ base : Heap, K.In base → base.Ns mainGlobals mg → FnG l.prog w K mg base 18 fa fd ["_law_script"] (spLaw K) := by
  have e := hfa.symm.trans (PySem.W.mg_of X G a34)
  cases e
  refine ⟨PySem.W.fnOf "law" "law" (defArgs s_law) (defBody s_law) (defScope s_law) .none kV34 dc34 pm34 an34 cd34 ct34, fun s v => .of_eq rfl, fun base _ _ => ?_⟩
  exact ok_law (T := {
    C_House := C_House, cl_House := ⟨pg_House, hd_House, po_House, sa_House⟩, mc_House := PySem.W.mg_of X G aC_House,
    na_House_plan := na_House_plan,
    na_House_book := na_House_book,
    na_House_paths := na_House_paths,
    na_House_bounds := na_House_bounds,
    na_House_programs := na_House_programs,
    na_House_hands := na_House_hands,
    na_House_groups := na_House_groups,
    f_within_of := f0, d_within_of := _, F_within_of := fun_mk (st := s_within_of) l0 c0 k0, m_within_of := PySem.W.mg_of X G a0,
    f_is_whole := f1, d_is_whole := _, F_is_whole := fun_mk (st := s_is_whole) l1 c1 k1, m_is_whole := PySem.W.mg_of X G a1,
    f_is_whole_from := f2, d_is_whole_from := _, F_is_whole_from := fun_mk (st := s_is_whole_from) l2 c2 k2, m_is_whole_from := PySem.W.mg_of X G a2,
    f_is_tuple_of := f3, d_is_tuple_of := _, F_is_tuple_of := fun_mk (st := s_is_tuple_of) l3 c3 k3, m_is_tuple_of := PySem.W.mg_of X G a3,
    f_is_known := f4, d_is_known := _, F_is_known := fun_mk (st := s_is_known) l4 c4 k4, m_is_known := PySem.W.mg_of X G a4,
    f_is_letters := f5, d_is_letters := _, F_is_letters := fun_mk (st := s_is_letters) l5 c5 k5, m_is_letters := PySem.W.mg_of X G a5,
    f_is_name := f6, d_is_name := _, F_is_name := fun_mk (st := s_is_name) l6 c6 k6, m_is_name := PySem.W.mg_of X G a6,
    f_is_plan := f7, d_is_plan := _, F_is_plan := fun_mk (st := s_is_plan) l7 c7 k7, m_is_plan := PySem.W.mg_of X G a7,
    f_member_fits := f8, d_member_fits := _, F_member_fits := fun_mk (st := s_member_fits) l8 c8 k8, m_member_fits := PySem.W.mg_of X G a8,
    f_has_group_form := f9, d_has_group_form := _, F_has_group_form := fun_mk (st := s_has_group_form) l9 c9 k9, m_has_group_form := PySem.W.mg_of X G a9,
    f_hands_of := f10, d_hands_of := _, F_hands_of := fun_mk (st := s_hands_of) l10 c10 k10, m_hands_of := PySem.W.mg_of X G a10,
    f_groups_of := f11, d_groups_of := _, F_groups_of := fun_mk (st := s_groups_of) l11 c11 k11, m_groups_of := PySem.W.mg_of X G a11,
    f_bounds_of := f12, d_bounds_of := _, F_bounds_of := fun_mk (st := s_bounds_of) l12 c12 k12, m_bounds_of := PySem.W.mg_of X G a12,
    f_all_in := f13, d_all_in := _, F_all_in := fun_mk (st := s_all_in) l13 c13 k13, m_all_in := PySem.W.mg_of X G a13,
    f_all_from := f14, d_all_from := _, F_all_from := fun_mk (st := s_all_from) l14 c14 k14, m_all_from := PySem.W.mg_of X G a14,
    f_is_row_number := f15, d_is_row_number := _, F_is_row_number := fun_mk (st := s_is_row_number) l15 c15 k15, m_is_row_number := PySem.W.mg_of X G a15,
    f_word_fits := f16, d_word_fits := _, F_word_fits := fun_mk (st := s_word_fits) l16 c16 k16, m_word_fits := PySem.W.mg_of X G a16,
    f_take_fits := f17, d_take_fits := _, F_take_fits := fun_mk (st := s_take_fits) l17 c17 k17, m_take_fits := PySem.W.mg_of X G a17,
    f_say_fits := f18, d_say_fits := _, F_say_fits := fun_mk (st := s_say_fits) l18 c18 k18, m_say_fits := PySem.W.mg_of X G a18,
    f_goto_fits := f19, d_goto_fits := _, F_goto_fits := fun_mk (st := s_goto_fits) l19 c19 k19, m_goto_fits := PySem.W.mg_of X G a19,
    f_if_fits := f20, d_if_fits := _, F_if_fits := fun_mk (st := s_if_fits) l20 c20 k20, m_if_fits := PySem.W.mg_of X G a20,
    f_is_program := f21, d_is_program := _, F_is_program := fun_mk (st := s_is_program) l21 c21 k21, m_is_program := PySem.W.mg_of X G a21,
    f_row_fits := f22, d_row_fits := _, F_row_fits := fun_mk (st := s_row_fits) l22 c22 k22, m_row_fits := PySem.W.mg_of X G a22,
    f_is_book := f23, d_is_book := _, F_is_book := fun_mk (st := s_is_book) l23 c23 k23, m_is_book := PySem.W.mg_of X G a23,
    f_pair_fits := f24, d_pair_fits := _, F_pair_fits := fun_mk (st := s_pair_fits) l24 c24 k24, m_pair_fits := PySem.W.mg_of X G a24,
    f__law_box := f25, d__law_box := _, F__law_box := fun_mk (st := s__law_box) l25 c25 k25, m__law_box := PySem.W.mg_of X G a25,
    f__law_take := f26, d__law_take := _, F__law_take := fun_mk (st := s__law_take) l26 c26 k26, m__law_take := PySem.W.mg_of X G a26,
    f__law_group := f27, d__law_group := _, F__law_group := fun_mk (st := s__law_group) l27 c27 k27, m__law_group := PySem.W.mg_of X G a27,
    f__law_plan := f28, d__law_plan := _, F__law_plan := fun_mk (st := s__law_plan) l28 c28 k28, m__law_plan := PySem.W.mg_of X G a28,
    f__law_parts := f29, d__law_parts := _, F__law_parts := fun_mk (st := s__law_parts) l29 c29 k29, m__law_parts := PySem.W.mg_of X G a29,
    f__law_hands := f30, d__law_hands := _, F__law_hands := fun_mk (st := s__law_hands) l30 c30 k30, m__law_hands := PySem.W.mg_of X G a30,
    f__law_row := f31, d__law_row := _, F__law_row := fun_mk (st := s__law_row) l31 c31 k31, m__law_row := PySem.W.mg_of X G a31,
    f__law_program := f32, d__law_program := _, F__law_program := fun_mk (st := s__law_program) l32 c32 k32, m__law_program := PySem.W.mg_of X G a32,
    f__law_book := f33, d__law_book := _, F__law_book := fun_mk (st := s__law_book) l33 c33 k33, m__law_book := PySem.W.mg_of X G a33,
    f_law := fa, d_law := _, F_law := fun_mk (st := s_law) l34 c34 k34, m_law := PySem.W.mg_of X G a34,
    f_House___init__ := f35, d_House___init__ := _, F_House___init__ := fun_mk (st := s_House___init__) l35 c35 k35, mt_House___init__ := ⟨a35, i35, k35⟩,
    mk_House := ⟨mk_House, a35, i35, kc_House⟩,
    f_House_hand := f36, d_House_hand := _, F_House_hand := fun_mk (st := s_House_hand) l36 c36 k36, mt_House_hand := ⟨a36, i36, k36⟩,
    f_House_group := f37, d_House_group := _, F_House_group := fun_mk (st := s_House_group) l37 c37 k37, mt_House_group := ⟨a37, i37, k37⟩,
    f_House_within := f38, d_House_within := _, F_House_within := fun_mk (st := s_House_within) l38 c38 k38, mt_House_within := ⟨a38, i38, k38⟩,
    f_House___len__ := f39, d_House___len__ := _, F_House___len__ := fun_mk (st := s_House___len__) l39 c39 k39, mt_House___len__ := ⟨a39, i39, k39⟩,
    z_abs := PySem.W.mg_none_of X G z0,
    z_all := PySem.W.mg_none_of X G z1,
    z_bool := PySem.W.mg_none_of X G z2,
    z_dict := PySem.W.mg_none_of X G z3,
    z_int := PySem.W.mg_none_of X G z4,
    z_isinstance := PySem.W.mg_none_of X G z5,
    z_len := PySem.W.mg_none_of X G z6,
    z_range := PySem.W.mg_none_of X G z7,
    z_repr := PySem.W.mg_none_of X G z8,
    z_sorted := PySem.W.mg_none_of X G z9,
    z_str := PySem.W.mg_none_of X G z10,
    z_tuple := PySem.W.mg_none_of X G z11,
    z_zip := PySem.W.mg_none_of X G z12,
    t_MOST_SAID := tM, c_MOST_SAID := PySem.W.mg_of X G cM, a_FORMS := aF, c_FORMS := PySem.W.mg_of X G cF, D_FORMS := ktab6 lF kF lowF q1 q2 q3 q4 q5 q6 v1 v2 v3 v4 v5 v6, nd := nd, t_LETTERS := tL, c_LETTERS := PySem.W.mg_of X G cL, t_LONGEST := tN, c_LONGEST := PySem.W.mg_of X G cN, t_LEAST := tB, c_LEAST := PySem.W.mg_of X G cB
    })
end K11
open PySem PySem.W PyProof.Rows
set_option maxRecDepth 100000 in
set_option maxHeartbeats 0 in
theorem PySem.Challenge.cw_nearlocks_k11_how_a_house_begins_holds : PySem.Challenge.rw_nearlocks_k11_how_a_house_begins.Holds := by
  w_on; o_law; k_head; (case hw => w_witness2)
  k_fill
  refine NL.walk_y (l := PySem.Challenge.rw_nearlocks_k11_how_a_house_begins) (n := 63) (k := 18) (x := "_law_script") (sp := K11.spLaw) rfl (by decide) rfl (by decide +kernel) ⟨rfl, by decide, by decide⟩ (fun w h Y => PySem.W.kIn_of Y) ?F ?P
  case P =>
    intro K H a ns hl hy hS
    exact ⟨a, ns, rfl, hS, hl, hy, fun _ => rfl⟩
  case F =>
    intro w mg fa h KX G hmg
    refine' K11.all_mk KX G hmg ?aC_House ?pg_House ?hd_House ?po_House ?sa_House ?mk_House ?kc_House ?na_House_plan ?na_House_book ?na_House_paths ?na_House_bounds ?na_House_programs ?na_House_hands ?na_House_groups ?a0 ?l0 ?c0 ?k0 ?a1 ?l1 ?c1 ?k1 ?a2 ?l2 ?c2 ?k2 ?a3 ?l3 ?c3 ?k3 ?a4 ?l4 ?c4 ?k4 ?a5 ?l5 ?c5 ?k5 ?a6 ?l6 ?c6 ?k6 ?a7 ?l7 ?c7 ?k7 ?a8 ?l8 ?c8 ?k8 ?a9 ?l9 ?c9 ?k9 ?a10 ?l10 ?c10 ?k10 ?a11 ?l11 ?c11 ?k11 ?a12 ?l12 ?c12 ?k12 ?a13 ?l13 ?c13 ?k13 ?a14 ?l14 ?c14 ?k14 ?a15 ?l15 ?c15 ?k15 ?a16 ?l16 ?c16 ?k16 ?a17 ?l17 ?c17 ?k17 ?a18 ?l18 ?c18 ?k18 ?a19 ?l19 ?c19 ?k19 ?a20 ?l20 ?c20 ?k20 ?a21 ?l21 ?c21 ?k21 ?a22 ?l22 ?c22 ?k22 ?a23 ?l23 ?c23 ?k23 ?a24 ?l24 ?c24 ?k24 ?a25 ?l25 ?c25 ?k25 ?a26 ?l26 ?c26 ?k26 ?a27 ?l27 ?c27 ?k27 ?a28 ?l28 ?c28 ?k28 ?a29 ?l29 ?c29 ?k29 ?a30 ?l30 ?c30 ?k30 ?a31 ?l31 ?c31 ?k31 ?a32 ?l32 ?c32 ?k32 ?a33 ?l33 ?c33 ?k33 ?a34 ?l34 ?c34 ?k34 ?a35 ?i35 ?l35 ?c35 ?k35 ?a36 ?i36 ?l36 ?c36 ?k36 ?a37 ?i37 ?l37 ?c37 ?k37 ?a38 ?i38 ?l38 ?c38 ?k38 ?a39 ?i39 ?l39 ?c39 ?k39 ?z0 ?z1 ?z2 ?z3 ?z4 ?z5 ?z6 ?z7 ?z8 ?z9 ?z10 ?z11 ?z12 ?cL ?cN ?cB ?cM ?cF ?lF ?kF ?lowF ?q1 ?q2 ?q3 ?q4 ?q5 ?q6 ?v1 ?v2 ?v3 ?v4 ?v5 ?v6 ?nd
    (case aC_House => k_is); (case pg_House => k_is); (case hd_House => k_is); (case po_House => k_is); (case sa_House => k_is); (case mk_House => k_is); (case kc_House => k_is)
    (case na_House_plan => k_is); (case na_House_book => k_is); (case na_House_paths => k_is); (case na_House_bounds => k_is); (case na_House_programs => k_is); (case na_House_hands => k_is); (case na_House_groups => k_is)
    (case a0 => k_is); (case l0 => k_is); (case c0 => k_is); (case k0 => k_is)
    (case a1 => k_is); (case l1 => k_is); (case c1 => k_is); (case k1 => k_is)
    (case a2 => k_is); (case l2 => k_is); (case c2 => k_is); (case k2 => k_is)
    (case a3 => k_is); (case l3 => k_is); (case c3 => k_is); (case k3 => k_is)
    (case a4 => k_is); (case l4 => k_is); (case c4 => k_is); (case k4 => k_is)
    (case a5 => k_is); (case l5 => k_is); (case c5 => k_is); (case k5 => k_is)
    (case a6 => k_is); (case l6 => k_is); (case c6 => k_is); (case k6 => k_is)
    (case a7 => k_is); (case l7 => k_is); (case c7 => k_is); (case k7 => k_is)
    (case a8 => k_is); (case l8 => k_is); (case c8 => k_is); (case k8 => k_is)
    (case a9 => k_is); (case l9 => k_is); (case c9 => k_is); (case k9 => k_is)
    (case a10 => k_is); (case l10 => k_is); (case c10 => k_is); (case k10 => k_is)
    (case a11 => k_is); (case l11 => k_is); (case c11 => k_is); (case k11 => k_is)
    (case a12 => k_is); (case l12 => k_is); (case c12 => k_is); (case k12 => k_is)
    (case a13 => k_is); (case l13 => k_is); (case c13 => k_is); (case k13 => k_is)
    (case a14 => k_is); (case l14 => k_is); (case c14 => k_is); (case k14 => k_is)
    (case a15 => k_is); (case l15 => k_is); (case c15 => k_is); (case k15 => k_is)
    (case a16 => k_is); (case l16 => k_is); (case c16 => k_is); (case k16 => k_is)
    (case a17 => k_is); (case l17 => k_is); (case c17 => k_is); (case k17 => k_is)
    (case a18 => k_is); (case l18 => k_is); (case c18 => k_is); (case k18 => k_is)
    (case a19 => k_is); (case l19 => k_is); (case c19 => k_is); (case k19 => k_is)
    (case a20 => k_is); (case l20 => k_is); (case c20 => k_is); (case k20 => k_is)
    (case a21 => k_is); (case l21 => k_is); (case c21 => k_is); (case k21 => k_is)
    (case a22 => k_is); (case l22 => k_is); (case c22 => k_is); (case k22 => k_is)
    (case a23 => k_is); (case l23 => k_is); (case c23 => k_is); (case k23 => k_is)
    (case a24 => k_is); (case l24 => k_is); (case c24 => k_is); (case k24 => k_is)
    (case a25 => k_is); (case l25 => k_is); (case c25 => k_is); (case k25 => k_is)
    (case a26 => k_is); (case l26 => k_is); (case c26 => k_is); (case k26 => k_is)
    (case a27 => k_is); (case l27 => k_is); (case c27 => k_is); (case k27 => k_is)
    (case a28 => k_is); (case l28 => k_is); (case c28 => k_is); (case k28 => k_is)
    (case a29 => k_is); (case l29 => k_is); (case c29 => k_is); (case k29 => k_is)
    (case a30 => k_is); (case l30 => k_is); (case c30 => k_is); (case k30 => k_is)
    (case a31 => k_is); (case l31 => k_is); (case c31 => k_is); (case k31 => k_is)
    (case a32 => k_is); (case l32 => k_is); (case c32 => k_is); (case k32 => k_is)
    (case a33 => k_is); (case l33 => k_is); (case c33 => k_is); (case k33 => k_is)
    (case a34 => k_is); (case l34 => k_is); (case c34 => k_is); (case k34 => k_is)
    (case a35 => k_is); (case i35 => k_is); (case l35 => k_is); (case c35 => k_is); (case k35 => k_is)
    (case a36 => k_is); (case i36 => k_is); (case l36 => k_is); (case c36 => k_is); (case k36 => k_is)
    (case a37 => k_is); (case i37 => k_is); (case l37 => k_is); (case c37 => k_is); (case k37 => k_is)
    (case a38 => k_is); (case i38 => k_is); (case l38 => k_is); (case c38 => k_is); (case k38 => k_is)
    (case a39 => k_is); (case i39 => k_is); (case l39 => k_is); (case c39 => k_is); (case k39 => k_is)
    (case z0 => k_is)
    (case z1 => k_is)
    (case z2 => k_is)
    (case z3 => k_is)
    (case z4 => k_is)
    (case z5 => k_is)
    (case z6 => k_is)
    (case z7 => k_is)
    (case z8 => k_is)
    (case z9 => k_is)
    (case z10 => k_is)
    (case z11 => k_is)
    (case z12 => k_is)
    (case cL => k_is); (case cN => k_is); (case cB => k_is)
    (case cM => k_is); (case cF => k_is); (case lF => k_is); (case kF => k_keys); (case lowF => decide)
    (case q1 => rfl); (case q2 => rfl); (case q3 => rfl); (case q4 => rfl); (case q5 => rfl); (case q6 => rfl)
    (case v1 => rfl); (case v2 => rfl); (case v3 => rfl); (case v4 => rfl); (case v5 => rfl); (case v6 => rfl); (case nd => decide)

