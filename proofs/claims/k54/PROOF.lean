import PyProof.Rows.All
import Wide.All
import OpenK.AllK
import Wide.FinOn
import HandS.CallLocal
import HandS.Evl
import HandS.ForMost
import HandS.IsInst
import HandS.More
import HandS.Star
import HandS.Strs
import HandS.Style
import HandS.TupAny
import HandS.Walk
import HandS.WrittenGet
import PySem.Challenge.RW_nearlocks_k54_even_plans
set_option Elab.async false
set_option linter.all false
set_option maxRecDepth 100000
set_option maxHeartbeats 4000000
/-! the ground: data of the heap, their kinds, what stays -/
namespace NL
open PySem L2 Evl

mutual
theorem dp_of {K : PySem.W.Frag} {H H' : Hp} (el : ∀ a xs, SqL K H a xs → SqL K H' a xs) (et : ∀ a xs, SqT K H a xs → SqT K H' a xs) : ∀ (d : PyData) (v : V), Dp K H v d → Dp K H' v d
  | .none, _, h => by cases h; exact .non
  | .bool b, _, h => by cases h; exact .bl b
  | .int i, _, h => by cases h; exact .int i
  | .str x, _, h => by cases h; exact .str x
  | .list ds, _, h => by
    cases h with
    | lst hs ha => exact .lst (el _ _ hs) (dpa_of el et ds _ ha)
  | .tuple ds, _, h => by
    cases h with
    | tup hs ha => exact .tup (et _ _ hs) (dpa_of el et ds _ ha)
  | .dict _, _, h => by cases h
theorem dpa_of {K : PySem.W.Frag} {H H' : Hp} (el : ∀ a xs, SqL K H a xs → SqL K H' a xs) (et : ∀ a xs, SqT K H a xs → SqT K H' a xs) : ∀ (ds : List PyData) (vs : List V), DpAll K H vs ds → DpAll K H' vs ds
  | [], _, h => by cases h; exact .nil
  | d :: ds, _, h => by
    cases h with
    | cons h1 h2 => exact .cons (dp_of el et d _ h1) (dpa_of el et ds _ h2)
end
theorem dp_mono {K : PySem.W.Frag} {H H' : Hp} {v : V} {d : PyData} (e : Ex H H') (h : Dp K H v d) : Dp K H' v d := dp_of (fun _ _ => ex_l e) (fun _ _ => ex_t e) d v h
theorem dpa_mono {K : PySem.W.Frag} {H H' : Hp} {vs : List V} {ds : List PyData} (e : Ex H H') (h : DpAll K H vs ds) : DpAll K H' vs ds := dpa_of (fun _ _ => ex_l e) (fun _ _ => ex_t e) ds vs h
theorem dpa_len {K : PySem.W.Frag} {H : Hp} : ∀ {vs : List V} {ds : List PyData}, DpAll K H vs ds → vs.length = ds.length
  | _, _, .nil => rfl
  | _, _, .cons _ t => by rw [List.length_cons, List.length_cons, dpa_len t]
theorem dpa_get {K : PySem.W.Frag} {H : Hp} : ∀ {vs : List V} {ds : List PyData} {i : Nat} {v : V}, DpAll K H vs ds → vs[i]? = some v → ∃ d, ds[i]? = some d ∧ Dp K H v d
  | _, _, _, _, .nil, e => by simp at e
  | _, _, 0, _, .cons r _, e => by simp at e; subst e; exact ⟨_, rfl, r⟩
  | _, _, i + 1, v, .cons _ t, e => by
    obtain ⟨d, h1, h2⟩ := dpa_get (i := i) (v := v) t (by simpa using e)
    exact ⟨d, by simpa using h1, h2⟩

/-! ### kinds -/
def tyN : PyData → String
  | .none => "NoneType" | .bool _ => "bool" | .int _ => "int" | .str _ => "str" | .list _ => "list" | .tuple _ => "tuple" | .dict _ => "dict"
theorem dp_ty {K : PySem.W.Frag} {H : Hp} {v : V} {d : PyData} (h : Dp K H v d) : TyX K H v (.type (tyN d)) := by
  cases h with
  | non => exact .base .non
  | bl b => exact .base (.bl b)
  | int i => exact .base (.int i)
  | str x => exact .base (.str x)
  | lst hs _ =>
    rcases hs with (h | ⟨o, h⟩) | ⟨o, its, n, h, c, _⟩
    · exact .base (.lst h)
    · exact .base (.frz h)
    · exact .kList h c
  | tup hs _ =>
    rcases hs with (h | ⟨o, h⟩) | ⟨o, its, n, h, c, _⟩
    · exact .base (.tup h)
    · exact .fTuple h
    · exact .kTuple h c
def isIntB : PyData → Bool
  | .int _ => true | .bool _ => true | _ => false
def isBoolB : PyData → Bool
  | .bool _ => true | _ => false
def isTupB : PyData → Bool
  | .tuple _ => true | _ => false
def isStrB : PyData → Bool
  | .str _ => true | _ => false
theorem kt_int (d : PyData) : kitB (tyN d) "int" = some (isIntB d) := by
  cases d
  · exact (by decide +kernel : kitB "NoneType" "int" = some false)
  · exact (by decide +kernel : kitB "bool" "int" = some true)
  · exact (by decide +kernel : kitB "int" "int" = some true)
  · exact (by decide +kernel : kitB "str" "int" = some false)
  · exact (by decide +kernel : kitB "list" "int" = some false)
  · exact (by decide +kernel : kitB "tuple" "int" = some false)
  · exact (by decide +kernel : kitB "dict" "int" = some false)
theorem kt_bool (d : PyData) : kitB (tyN d) "bool" = some (isBoolB d) := by
  cases d
  · exact (by decide +kernel : kitB "NoneType" "bool" = some false)
  · exact (by decide +kernel : kitB "bool" "bool" = some true)
  · exact (by decide +kernel : kitB "int" "bool" = some false)
  · exact (by decide +kernel : kitB "str" "bool" = some false)
  · exact (by decide +kernel : kitB "list" "bool" = some false)
  · exact (by decide +kernel : kitB "tuple" "bool" = some false)
  · exact (by decide +kernel : kitB "dict" "bool" = some false)
theorem kt_tuple (d : PyData) : kitB (tyN d) "tuple" = some (isTupB d) := by
  cases d
  · exact (by decide +kernel : kitB "NoneType" "tuple" = some false)
  · exact (by decide +kernel : kitB "bool" "tuple" = some false)
  · exact (by decide +kernel : kitB "int" "tuple" = some false)
  · exact (by decide +kernel : kitB "str" "tuple" = some false)
  · exact (by decide +kernel : kitB "list" "tuple" = some false)
  · exact (by decide +kernel : kitB "tuple" "tuple" = some true)
  · exact (by decide +kernel : kitB "dict" "tuple" = some false)
theorem kt_str (d : PyData) : kitB (tyN d) "str" = some (isStrB d) := by
  cases d
  · exact (by decide +kernel : kitB "NoneType" "str" = some false)
  · exact (by decide +kernel : kitB "bool" "str" = some false)
  · exact (by decide +kernel : kitB "int" "str" = some false)
  · exact (by decide +kernel : kitB "str" "str" = some true)
  · exact (by decide +kernel : kitB "list" "str" = some false)
  · exact (by decide +kernel : kitB "tuple" "str" = some false)
  · exact (by decide +kernel : kitB "dict" "str" = some false)

section
variable {K : PySem.W.Frag} {σ : L2.St} {H : Hp} {ta tb te : TE} {x v : V} {d : PyData}
theorem ev_isi {T : String} {b : Bool} (ha : Ev ta σ H x) (hd : Dp K H x d) (hk : kitB (tyN d) T = some b) : Ev (tCB (rIsi K) (tCons ta (tCons (tC (.ty T)) tNil))) σ H (.bl b) := fun H1 e Q q =>
  ha H1 e _ fun H2 e2 => ⟨x, .ty T, _, _, b, rfl, .ty T, dp_ty (dp_mono (e.trans e2) hd), kit_ty hk, q H2 e2⟩
theorem ev_lenT {p : Addr} {xs : List V} (ha : Ev ta σ H (.ref p)) (h : SqT K H p xs) : Ev (tCB (rLenS K) (tCons ta tNil)) σ H (.int (xs.length : Int)) := fun H1 e Q q =>
  ha H1 e _ fun H2 e2 => ⟨p, xs, rfl, Or.inr (ex_t (e.trans e2) h), q H2 e2⟩
theorem ev_ixT {p : Addr} {xs : List V} {i : Int} (ha : Ev ta σ H (.ref p)) (hb : Ev tb σ H (.int i)) (h : SqT K H p xs) (hi : atI xs i = some v) : Ev (tOp (rIxT K) ta tb) σ H v := ev_op ha hb (rv_ixT h hi)
theorem ev_isN (ha : Ev ta σ H x) : Ev (tIsN ta) σ H (.bl (decide (x = .non))) := fun H1 e Q q => ha H1 e _ fun H2 e2 => q H2 e2
theorem ev_eq {y : V} (ha : Ev ta σ H x) (hb : Ev tb σ H y) (h : scal x y = true) : Ev (tOp rEq ta tb) σ H (.bl (decide (x = y))) := ev_op ha hb (rv_eq h)
theorem ev_ne {y : V} (ha : Ev ta σ H x) (hb : Ev tb σ H y) (h : scal x y = true) : Ev (tOp rNe ta tb) σ H (.bl (!decide (x = y))) := ev_op ha hb (rv_ne h)
theorem ev_I0 {g : Int → Int → V} {i j : Int} (ha : Ev ta σ H (.int i)) (hb : Ev tb σ H (.int j)) : Ev (tOp (rI0 g) ta tb) σ H (g i j) := ev_op ha hb rv_I0
theorem ev_I {C : Int → Int → Prop} {g : Int → Int → V} {i j : Int} (hc : C i j) (ha : Ev ta σ H (.int i)) (hb : Ev tb σ H (.int j)) : Ev (tOp (rI C g) ta tb) σ H (g i j) := ev_op ha hb (rv_I hc)
theorem ev_allN {bs : List Bool} (ha : EvL ta σ H (bs.map V.bl)) : Ev (tCB (rAll K) (tCons ta tNil)) σ H (.bl (bs.all id)) := fun H1 e Q q =>
  ha H1 e _ fun p H2 _ e2 h2 => ⟨p, bs, rfl, sq_of h2, q H2 e2⟩
/-- a comprehension over a tuple, whose turns give or skip as told -/
theorem el_lcT {a : Addr} {xs : List V} {tl : TE} {tt : TT} {j : Nat} {vs : List Nat} (f : Nat → Bool) (g : Nat → V) (src : Ev tl σ H (.ref a)) (held : SqT K H a xs) (few : xs.length ≤ 40000) (clean : ∀ x, wipe ((wipe σ vs).set j (some x)) vs = wipe σ vs)
    (test : ∀ (i : Nat) (x : V) H1, Ex H H1 → xs[i]? = some x → EvT tt ((wipe σ vs).set j (some x)) H1 (f i)) (give : ∀ (i : Nat) (x : V) H1, Ex H H1 → xs[i]? = some x → f i = true → Ev te ((wipe σ vs).set j (some x)) H1 (g i)) :
    EvL (tLc (iTup K tl) (gName j) tt te vs) σ H (given xs.length f g) := by
  intro H0 e0 Q next
  refine src H0 e0 _ fun H1 e1 => ?_
  have e01 : Ex H H1 := e0.trans e1
  refine ⟨a, rfl, ⟨xs, ex_t e01 held⟩, fun made fresh => ?_⟩
  refine lc_tup (xs := xs) (Cw H1 f g made) ⟨fresh, Ex.new fresh, upd_same⟩ ?stays ?turn ?done
  case stays =>
    intro i H' _ inv
    exact ex_t (e01.trans inv.2.1) held
  case turn =>
    intro i x H' at_i inv
    have small : i < 50000 := by
      have := (List.getElem?_eq_some_iff.mp at_i).1
      omega
    exact ⟨clean x, cw_turn inv small (test i x H1 e01 at_i) (give i x H1 e01 at_i)⟩
  case done =>
    intro H' inv
    exact next made H' (fresh_back e1 inv.1) (e1.trans inv.2.1) inv.2.2
end
theorem s_next {D : Ends} {σ : L2.St} {H : Hp} (h : D.nx σ H) : tNext D σ H := h
theorem s_seq {D : Ends} {t u : TS} {σ : L2.St} {H : Hp} (h : t { D with nx := u D } σ H) : tSeq t u D σ H := h
theorem q_asgP {te : TE} {tz : TS} {D : Ends} {σ : L2.St} {H : Hp} {i : Nat} (h : te σ H fun v H1 => tz D (σ.set i (some v)) H1) : tSeq (tAsg te (gName i)) tz D σ H := h
theorem s_retP {te : TE} {D : Ends} {σ : L2.St} {H : Hp} (h : te σ H fun v H1 => D.rt v H1) : tRet te D σ H := h
theorem q_dropP {te : TE} {tz : TS} {D : Ends} {σ : L2.St} {H : Hp} (h : te σ H fun v H1 => tz D σ H1) : tSeq (tDrop te) tz D σ H := h
theorem et_yes {σ : L2.St} {H : Hp} : EvT tYes σ H true := fun H1 _ _ q => q H1 (Ex.refl H1)
theorem given_all (n : Nat) (g : Nat → V) : given n (fun _ => true) g = (List.range n).map g := by
  unfold given
  rw [List.filter_eq_self.mpr (fun _ _ => rfl)]

/-! ### arguments without a star, whatever the scope -/
def noStar : Expr → Bool
  | .Starred _ _ => false
  | _ => true
theorem star1 {e : Expr} {es : List Expr} {env : Env} (h : noStar e = true) : starEach (e :: es) env = (false, eval e env) :: starEach es env := by
  cases e <;> first | rfl | cases h
theorem starAll {pos : Pos} {env : Env} : ∀ {es : List Expr}, es.all noStar = true → (backTo pos (starEach es env)).any (·.1) = false
  | [], _ => rfl
  | e :: es, h => by
    rw [List.all_cons, Bool.and_eq_true] at h
    rw [star1 h.1]
    have := starAll (pos := pos) (env := env) h.2
    unfold backTo at this ⊢
    simpa using this
/-! ### rules by a written part that is named -/
section
variable {X : Cx} {K : PySem.W.Frag}
theorem lenK (h : X.K = K) : CallR X (.builtin "len") (rLenS K) := by subst h; exact call_len_seq
theorem isiK (h : X.K = K) : CallR X (.builtin "isinstance") (rIsi K) := by subst h; exact call_isi
theorem allK (h : X.K = K) (hc : X.calm = true) : CallR X (.builtin "all") (rAll K) := by subst h; exact cr_all hc
theorem ixTK (h : X.K = K) : IxR X (rIxT K) := by subst h; exact ix_tup
theorem ixLK (h : X.K = K) : IxR X (rIxL K) := by subst h; exact ix_list
theorem catAK (h : X.K = K) : OpR X (binaryOp .Add) (rCatA K) := by subst h; exact op_catA
theorem slAK (h : X.K = K) : SlR X (rSlA K) := by subst h; exact sl_tupA
theorem eqDK (h : X.K = K) (hu : X.A.units + 64 < cLine) : OpR X (compareOp .Eq) (rEqD K) := by subst h; exact op_eqD hu
theorem neDK (h : X.K = K) (hu : X.A.units + 64 < cLine) : OpR X (compareOp .NotEq) (rNeD K) := by subst h; exact op_neD hu
end

/-! ### a dict of the module, asked by any text -/
def KTab (K : PySem.W.Frag) (w : World) (a : Addr) (f : Str → Option Value) : Prop :=
  ∃ es n, K.lookup a = some ⟨.type "dict", none, .dict es n, #[]⟩ ∧ PySem.W.KeysLit w.params es.toList ∧ (a == sysModules) = false ∧ ∀ z, PySem.W.nsIn K a z = some (f z)
def rNotInK (K : PySem.W.Frag) (w : World) : R2 := fun x y H Q => ∃ p z f, x = .str z ∧ y = .ref p ∧ KTab K w p f ∧ Q (.bl (!(f z).isSome)) H
section
variable {X : Cx}
theorem op_notInK : OpR X (compareOp .NotIn) (rNotInK X.K X.w) := by
  intro pins s σ H x y v u Q I rx ry h
  obtain ⟨p, z, f, rfl, rfl, ⟨es, n, hl, hk, low, hf⟩, q⟩ := h
  obtain rfl : u = Value.ref p := ry
  obtain ⟨t, rfl⟩ := rx
  have hm := PySem.W.mapOf_K (prog := X.prog) (w := X.w) I.kIn hl hk
  refine wpAny_notIn_of (strKind_is X.prog X.w z t) low hm ?_
  rw [PySem.W.find_K hl (hf z)]
  exact ⟨.bl _, H, I.tok _, rfl, q⟩
end
theorem rv_ixD {K : PySem.W.Frag} {w : World} {H : Hp} {p : Addr} {z : Str} {f : Str → Option Value} {a : Addr} (h : KTab K w p f) (e : f z = some (.ref a)) : RV (rIxD K w) (.ref p) (.str z) H (.ref a) := fun H1 _ _ q => by
  obtain ⟨es, n, hl, hk, _, hf⟩ := h
  exact ⟨p, z, .ref a, rfl, rfl, ⟨es, n, .ref a, hl, hk, by rw [hf z, e], rfl⟩, q H1 (Ex.refl H1)⟩
theorem rv_notInK {K : PySem.W.Frag} {w : World} {H : Hp} {p : Addr} {z : Str} {f : Str → Option Value} (h : KTab K w p f) : RV (rNotInK K w) (.str z) (.ref p) H (.bl (!(f z).isSome)) := fun H1 _ _ q => ⟨p, z, f, rfl, rfl, h, q H1 (Ex.refl H1)⟩
end NL

/-! the drawing hand: a list of a list of cells and a seed; what stays while it draws -/
namespace NL
open PySem L2 Evl
structure HandAt (H : Hp) (h l : Addr) (cs : List Int) (sd : Int) : Prop where
  hh : H h = some (.lst [.ref l, .int sd])
  hl : H l = some (.lst (cs.map V.int))
  lo : 0 ≤ sd
  hi : sd < 2305843009213693951
  few : cs.length ≤ 63
  pos : ∀ c ∈ cs, 0 ≤ c
def Hand (H : Hp) (h l : Addr) : Prop := ∃ cs sd, HandAt H h l cs sd
def Kp (h l : Addr) (H H' : Hp) : Prop := ∀ a o, a ≠ h → a ≠ l → H a = some o → H' a = some o
theorem Kp.refl (h l : Addr) (H : Hp) : Kp h l H H := fun _ _ _ _ e => e
theorem Kp.trans {h l : Addr} {H H1 H2 : Hp} (a : Kp h l H H1) (b : Kp h l H1 H2) : Kp h l H H2 := fun x o n m e => b x o n m (a x o n m e)
theorem Kp.ex {h l : Addr} {H H1 : Hp} (a : Ex H H1) : Kp h l H H1 := fun x o _ _ e => a x o e
theorem Kp.put {h l : Addr} {H H1 : Hp} {o : HO} {a : Addr} (k : Kp h l H H1) (ha : a = h ∨ a = l) : Kp h l H (upd H1 a o) := fun x u n m e => by
  have hx : x ≠ a := by rcases ha with rfl | rfl <;> assumption
  rw [upd_ne hx]
  exact k x u n m e
theorem HandAt.ne {H : Hp} {h l : Addr} {cs : List Int} {sd : Int} (A : HandAt H h l cs sd) : h ≠ l := by
  intro e
  subst e
  have e2 := A.hh.symm.trans A.hl
  cases cs with
  | nil => cases e2
  | cons c r => cases e2
theorem Hand.ne {H : Hp} {h l : Addr} (A : Hand H h l) : h ≠ l := by
  obtain ⟨cs, sd, A⟩ := A
  exact A.ne
theorem HandAt.ex {H H' : Hp} {h l : Addr} {cs : List Int} {sd : Int} (A : HandAt H h l cs sd) (e : Ex H H') : HandAt H' h l cs sd := ⟨e _ _ A.hh, e _ _ A.hl, A.lo, A.hi, A.few, A.pos⟩
theorem Hand.ex {H H' : Hp} {h l : Addr} (A : Hand H h l) (e : Ex H H') : Hand H' h l := by
  obtain ⟨cs, sd, A⟩ := A
  exact ⟨cs, sd, A.ex e⟩
theorem Hand.fresh {H : Hp} {h l p : Addr} (A : Hand H h l) (n : H p = none) : p ≠ h ∧ p ≠ l := by
  obtain ⟨cs, sd, A⟩ := A
  constructor
  · intro e
    subst e
    rw [A.hh] at n
    cases n
  · intro e
    subst e
    rw [A.hl] at n
    cases n
theorem Hand.off {H : Hp} {h l p : Addr} {o : HO} (A : Hand H h l) (n : H p = some o) (no : ∀ xs, o ≠ .lst xs) : p ≠ h ∧ p ≠ l := by
  obtain ⟨cs, sd, A⟩ := A
  constructor
  · intro e
    subst e
    rw [A.hh] at n
    cases n
    exact no _ rfl
  · intro e
    subst e
    rw [A.hl] at n
    cases n
    exact no _ rfl
theorem kp_tup {H H' : Hp} {h l a : Addr} {xs : List V} (A : Hand H h l) (k : Kp h l H H') (e : H a = some (.tup xs)) : H' a = some (.tup xs) := by
  obtain ⟨n, m⟩ := A.off e (fun _ z => by cases z)
  exact k a _ n m e
/-- what is new lies beside the hand -/
theorem Hand.new {H : Hp} {h l p : Addr} {o : HO} (A : Hand H h l) (n : H p = none) : Hand (upd H p o) h l := A.ex (Ex.new n)
theorem Hand.upd {H : Hp} {h l p : Addr} {o : HO} (A : Hand H h l) (n : p ≠ h) (m : p ≠ l) : Hand (upd H p o) h l := by
  obtain ⟨cs, sd, A⟩ := A
  exact ⟨cs, sd, by rw [upd_ne (Ne.symm n)]; exact A.hh, by rw [upd_ne (Ne.symm m)]; exact A.hl, A.lo, A.hi, A.few, A.pos⟩

/-! ### lists of ints compared with [] -/
theorem dpa_ints {K : PySem.W.Frag} {H : Hp} : ∀ ns : List Int, DpAll K H (ns.map V.int) (ns.map PyData.int)
  | [] => .nil
  | n :: r => .cons (.int n) (dpa_ints r)
theorem lay_ints : ∀ ns : List Int, PyData.canLayAll0 (ns.map PyData.int) = true
  | [] => by simp [PyData.canLayAll0]
  | n :: r => by simp [PyData.canLayAll0, PyData.canLay0, lay_ints r]
theorem deep_ints : ∀ ns : List Int, PyData.depthAll (ns.map PyData.int) = 0
  | [] => by simp [PyData.depthAll]
  | n :: r => by simp [PyData.depthAll, PyData.depth, deep_ints r]
theorem shaped_ints (ns : List Int) : SeqAt.shaped (.list (ns.map PyData.int)) = true := by
  unfold SeqAt.shaped
  simp [PyData.canLay0, lay_ints, PyData.depth, deep_ints]
theorem eqv_nil (ds : List PyData) : PyData.eqvAll ds [] = ds.isEmpty := by
  cases ds <;> simp [PyData.eqvAll]
theorem ev_neNil {K : PySem.W.Frag} {σ : L2.St} {H : Hp} {ta : TE} {l : Addr} {cs : List Int} (ha : Ev ta σ H (.ref l)) (hl : H l = some (.lst (cs.map V.int))) : Ev (tOp (rNeD K) ta (tLst tNil)) σ H (.bl (!cs.isEmpty)) :=
  ev_opL (xs := []) ha (el_lst ea_nil (by decide)) fun p H1 hp e1 H2 e2 Q q => ⟨.list (cs.map PyData.int), .list [], .lst (sq_of (e2 _ _ (e1 _ _ hl))) (dpa_ints cs), .lst (sq_of (e2 _ _ hp)) .nil, shaped_ints cs, by decide +kernel, by
    have e : PyData.eqv (.list (cs.map PyData.int)) (.list []) = cs.isEmpty := by
      simp only [PyData.eqv, eqv_nil]
      cases cs <;> rfl
    rw [e]
    exact q H2 (Ex.refl H2)⟩

/-! ### slices of a list of ints, from its front -/
theorem el_cut {K : PySem.W.Frag} {σ : L2.St} {H : Hp} {ta : TE} {a : Addr} {xs : List V} {n : Int} (ha : Ev ta σ H (.ref a)) (hs : SqL K H a xs) : EvL (tSl (rSlL K) ta tNoPart (tPart (tC (.int n)))) σ H (cutV xs none (some n)) := fun H1 e Q q =>
  ha H1 e _ fun H2 e2 => ⟨n, rfl, a, xs, rfl, ex_l (e.trans e2) hs, fun p hp => q p _ (fresh_back e2 hp) (e2.trans (Ex.new hp)) upd_same⟩
theorem cut_ints (ns : List Int) (n : Int) : ∃ ms : List Int, cutV (ns.map V.int) none (some n) = ms.map V.int ∧ ms.length ≤ ns.length := by
  refine ⟨(ns.drop (HT.sIx (ns.map V.int).length 0 none)).take (HT.sIx (ns.map V.int).length (ns.map V.int).length (some n) - HT.sIx (ns.map V.int).length 0 none), ?_, ?_⟩
  · unfold cutV
    rw [List.map_take, List.map_drop]
  · rw [List.length_take, List.length_drop]
    omega
end NL

/-! defs that are called where no text of a heap's thing is being made: what repr asks for -/
namespace NL
open PySem PySem.Spec PyProof.Rows L2 Evl
/-- the promise of a def, kept wherever no repr is under way -/
structure FnG (P : Program) (w : World) (K : PySem.W.Frag) (mg : Str → Option Value) (base : Heap) (k : Nat) (f : Addr) (fd : FuncData) (ps : List Str) (sp : Sp) : Prop where
  arity : ∀ xs H Q E, sp xs H Q E → xs.length = ps.length
  go : ∀ (A : Around) (envs : List Env) (st : Shared) (H : Hp) (ar : Args) (vals : List Value) (xs : List V) (Q : VK) (E : XK), A.guards = some [] → Room k A → Env0 P w K mg base A envs st H → BindsTo st fd ar (ps.zip vals) → Vals xs vals → sp xs H Q E →
    codeAny (model P w) A (.call (.ref f) ar) (CR CX0 envs P w H st Q E) st
section
variable {P : Program} {w : World} {K : PySem.W.Frag} {mg : Str → Option Value} {base : Heap} {k : Nat} {f : Addr} {fd : FuncData} {ps : List Str} {sp : Sp}
theorem FnG.of (F : FnOk P w K mg base CX0 k f fd ps sp) : FnG P w K mg base k f fd ps sp := ⟨F.len, fun A envs st H ar vals xs Q E _ room => F.run A envs st H ar vals xs Q E room⟩
theorem FnG.up {j : Nat} (F : FnG P w K mg base k f fd ps sp) (h : k ≤ j) : FnG P w K mg base j f fd ps sp := ⟨F.arity, fun A envs st H ar vals xs Q E g room => F.go A envs st H ar vals xs Q E g (room.mono h)⟩
/-- a def of the text, by its body -/
theorem fun_g {x qual : Str} {st : Stmt} {N : List Str} (F : Fun K x qual st f fd) (S : FnScope N ps (defScope st)) (arity : ∀ xs H Q E, sp xs H Q E → xs.length = ps.length)
    (body : ∀ (cdv : Value) (A : Around) (outer : List Env) (s : Shared) (H : Hp) (vs : List V) (Q : VK) (E : XK), A.guards = some [] → Room k (A.deeper (PyProof.Rows.envOfC qual (defScope st) s.heap.objs.size f cdv)) → sp vs H Q E →
      ∃ t, PSs (cxOf CX0 P w K mg base N qual (defScope st) f cdv A outer s H E).nox (defBody st) t ∧ t { nx := fun _ H' => Q .non H', rt := Q } (start N vs) H) : FnG P w K mg base (k + 1) f fd ps sp := by
  obtain ⟨oc, od, kV, doc, pm, an, cdv, ct, osl, hfd, look, code⟩ := F.ex
  subst hfd
  constructor
  · exact arity
  intro A envs s H ar vals xs Q E quiet room env0 binds rel promise
  have stays : ∀ b o, base.get? b = some o → s.heap.get? b = some o := fun b o e => (env0.bs b o e).1
  have kin : K.In s.heap := env0.mod.kin.keeps stays
  have nolim : s.heap.NoLimit := env0.mod.nolimit.keeps stays
  obtain ⟨t, walk, ends⟩ := body cdv A envs s H xs Q E quiet (room.deeper _) promise
  refine codeAny_call_function room.depth (kin _ _ look) rfl S.co S.gen rfl (PySem.W.codeRec_of kin code) (binds _ _ _ _ ?_)
  refine wpAny_newFunctionEnv_cells S.kind ?kinds fun env henv s1 made => ?_
  case kinds =>
    intro ⟨n, v⟩ mem
    cases S.par n (List.of_mem_zip mem).1 with
    | inl loc => exact Or.inl loc
    | inr cell => exact Or.inr ⟨cell, PySem.W.cellsFrom_some _ _ _ (Or.inl cell)⟩
  subst henv
  refine ⟨nolim.keeps made.toInCall.keep, codeAny_func ?_⟩
  refine wpAny_mono (walk.nox.run [] s1 (start N xs) H _ (inv_start S room.hd env0 (arity _ _ _ _ promise) rel made) ends) (fun flow s' out => ?_) fun e s' out => out
  match flow, out with
  | .ret u, out =>
    obtain ⟨v, σ', H', inv, ru, q⟩ := out
    exact ⟨v, H', inv.os, inv.bare, inv.base, inv.hok, ru, q⟩
  | .next, out =>
    obtain ⟨σ', H', inv, q⟩ := out
    exact ⟨V.non, H', inv.os, inv.bare, inv.base, inv.hok, rfl, q⟩
  | .brk, out => exact out.elim fun _ h => h.elim fun _ h => h.2.elim
  | .cont, out => exact out.elim fun _ h => h.elim fun _ h => h.2.elim
end
section
variable {X : Cx} {k : Nat} {f : Addr} {fd : FuncData} {ps : List Str} {sp : Sp} {x : Str} {p pos : Pos} {e : Expr} {es : List Expr} {t : TA}
/-- f(e, ..) where no repr is under way -/
theorem pe_callG (F : FnG X.prog X.w X.K X.mg X.base k f fd ps sp) (quiet : X.A.guards = some []) (hr : Room k X.A) (hg : Gl X x) (hm : X.mg x = some (.ref f)) (hk : PySem.W.keepIn X.K (.ref f) = true) (hb : Binds X.K fd ps []) (ha : PA X (e :: es) t)
    (hdb : (x == ("__debug__" : Str)) = false := by decide) (he : noStar e = true := by rfl) (hes : es.all noStar = true := by rfl) : PE X (.Call (.Name x p) (e :: es) [] pos) (tCall sp [] E0 t) := by
  constructor
  intro pins s σ H Q I reading
  refine wpAny_Call_Name_kw (ld_glob I hg hm ?_ hdb)
  refine PySem.W.callWith_K (h₀ := X.base) I.ok.mod.kin hk (thn (ha.run pos pins s σ H _ I reading) fun us s1 got => ?_) (star1 he) (starAll hes)
  obtain ⟨vs, H1, I1, rel, promise⟩ := got
  rw [List.append_nil] at promise
  refine ⟨I1.kIn, ?_⟩
  have len : us.length = ps.length := by
    rw [← rel.length]
    exact F.arity _ _ _ _ promise
  have bd := hb s1 us I1.kIn (by rw [List.append_nil]; exact len)
  rw [List.append_nil] at bd
  refine wpAny_call (codeAny_mono (F.go X.A X.stack s1 H1 ⟨us, []⟩ us vs Q E0 quiet hr I1.env0 bd rel promise) fun r s' out => ?_)
  match r, out with
  | .ok (.ret u), out => exact I1.after out
  | .ok .next, out => exact out.elim
  | .ok .brk, out => exact out.elim
  | .ok .cont, out => exact out.elim
  | .error _, out => exact out.elim
end
/-! ### the law's own call -/
section
variable {P : Program} {w : World} {K : PySem.W.Frag} {mg mb : Str → Option Value} {k : Nat} {fa a : Addr} {fd : FuncData} {x : Str} {sp : Sp} {s : Shared} {vals : List Value} {ns : List Int}
/-- from an abstract heap that tracks the script at most -/
theorem law_from (kin : K.In s.heap) (glob : s.heap.Ns mainGlobals mg) (blt : s.heap.Ns builtinsNs mb) (boot : ∀ x : Str, x ≠ "__name__" → mb x = bootBuiltins x) (nolim : s.heap.NoLimit) (gens : s.gens = #[])
    (script : s.heap.get? a = some { cls := .type "list", data := .seq vals.toArray }) (room : Room k callerA) (F : ∀ base : Heap, K.In base → base.Ns mainGlobals mg → FnG P w K mg base k fa fd [x] sp)
    (bind : ∀ (s : Shared) (u : Value), BindsTo s fd ⟨[u], []⟩ [(x, u)]) (H : Hp) (only : Only H) (promise : sp [.ref a] H (fun v _ => v = .bl true) E0) (hok : HOk P w H s.heap) (just : ∀ b, H b ≠ none → b = a) (off : H a ≠ none → K.lookup a = none) :
    codeAny (model P w) callerA (.call (.ref fa) ⟨[.ref a], []⟩) (fun r s' => r = .ok (.ret (.bool true)) ∧ OldK s.heap s'.heap ∧ s'.os = s.os ∧ AllBare s'.gens) s := by
  have free : ∀ {b : Addr} {o : Obj}, s.heap.get? b = some o → (∀ its n, o.data ≠ .seq its n) → H b = none := by
    intro b o e nseq
    cases hb : H b with
    | none => rfl
    | some u =>
      exfalso
      have eb := just b (by rw [hb]; exact fun z => by cases z)
      subst eb
      rw [script] at e
      cases e
      exact nseq _ _ rfl
  have ns' : ∀ {b : Addr} {m : Str → Option Value}, s.heap.Ns b m → (hidT s.heap H).Ns b m := by
    intro b m h
    obtain ⟨o, es, ep, e, d, r⟩ := h
    exact ⟨o, es, ep, hidT_get e (free e (fun its n z => by rw [d] at z; cases z)), d, r⟩
  have kin' : K.In (hidT s.heap H) := by
    intro b o e
    refine hidT_get (kin b o e) ?_
    cases hb : H b with
    | none => rfl
    | some u =>
      exfalso
      have eb := just b (by rw [hb]; exact fun z => by cases z)
      subst eb
      rw [off (by rw [hb]; exact fun z => by cases z)] at e
      cases e
  have env0 : Env0 P w K mg (hidT s.heap H) callerA [] s H := by
    refine ⟨rfl, ⟨kin', ns' glob, ⟨mb, ns' blt, boot⟩, ?_⟩, fun b o e => of_hidT e, Nat.le_of_eq (hidT_size _ _), trivial, fun b hb => ?_, hok, .of_eq gens⟩
    · obtain ⟨mc, h1, h2⟩ := nolim
      exact ⟨mc, ns' h1, h2⟩
    · exact absurd (show b ∈ ([] : List Addr) from hb) (by simp)
  have run := (F _ kin' (ns' glob)).go callerA [] s H ⟨[.ref a], []⟩ [.ref a] [.ref a] _ _ rfl room env0 (bind s (.ref a)) (.cons rfl .nil) promise
  refine codeAny_mono run fun r s' out => ?_
  match r, out with
  | .error _, out => exact out.elim
  | .ok .next, out => exact out.elim
  | .ok .brk, out => exact out.elim
  | .ok .cont, out => exact out.elim
  | .ok (.ret u), out =>
    obtain ⟨v, H', os, bare, un, hok', ru, hv⟩ := out
    have ev : v = .bl true := hv
    subst ev
    have eu : u = Value.bool true := ru
    subst eu
    refine ⟨rfl, OldK.of_keep fun b o e => ?_, os, bare⟩
    cases hb : H b with
    | none => exact un.keep b o e hb (fun z => absurd (show b ∈ ([] : List Addr) from z) (by simp)) (by simp)
    | some q =>
      cases only b with
      | inl z =>
        rw [hb] at z
        cases z
      | inr z =>
        obtain ⟨ob, xs, z⟩ := z
        have was := (hok b _ z).1
        have now := (hok' b _ (un.frzs b ob _ z)).1
        rw [e] at was
        cases was
        exact now
theorem law_g (kin : K.In s.heap) (glob : s.heap.Ns mainGlobals mg) (blt : s.heap.Ns builtinsNs mb) (boot : ∀ x : Str, x ≠ "__name__" → mb x = bootBuiltins x) (nolim : s.heap.NoLimit) (gens : s.gens = #[])
    (script : s.heap.get? a = some { cls := .type "list", data := .seq vals.toArray }) (whole : PyProof.Rows.IntsAre vals ns) (few : ns.length ≤ sizeLine) (room : Room k callerA) (F : ∀ base : Heap, K.In base → base.Ns mainGlobals mg → FnG P w K mg base k fa fd [x] sp)
    (bind : ∀ (s : Shared) (u : Value), BindsTo s fd ⟨[u], []⟩ [(x, u)]) (promise : ∀ H : Hp, Only H → SqL K H a (ns.map V.int) → sp [.ref a] H (fun v _ => v = .bl true) E0) :
    codeAny (model P w) callerA (.call (.ref fa) ⟨[.ref a], []⟩) (fun r s' => r = .ok (.ret (.bool true)) ∧ OldK s.heap s'.heap ∧ s'.os = s.os ∧ AllBare s'.gens) s := by
  have rel := vals_ints whole
  have many := whole.length
  cases own : K.lookup a with
  | some o =>
    have e := kin a o own
    rw [script] at e
    cases e
    have only : Only (fun _ => none) := fun _ => Or.inl rfl
    refine law_from kin glob blt boot nolim gens script room F bind (fun _ => none) only (promise _ only ?_) (fun b u z => ?_) (fun b z => absurd rfl z) (fun z => absurd rfl z)
    · exact Or.inr ⟨_, vals.toArray, _, own, rfl, rfl, rfl, by rw [List.size_toArray, many]; exact few, by simpa using rel⟩
    · exact absurd (show (none : Option HO) = some u from z) (fun z => by cases z)
  | none =>
    have at_a : ∀ {b : Addr}, b = a → (fun b => if b = a then some (HO.frz { cls := .type "list", data := .seq vals.toArray } (.lst (ns.map V.int))) else none) b = some (HO.frz { cls := .type "list", data := .seq vals.toArray } (.lst (ns.map V.int))) := fun h => if_pos h
    have off_a : ∀ {b : Addr}, b ≠ a → (fun b => if b = a then some (HO.frz { cls := .type "list", data := .seq vals.toArray } (.lst (ns.map V.int))) else none) b = none := fun h => if_neg h
    have only : Only (fun b => if b = a then some (HO.frz { cls := .type "list", data := .seq vals.toArray } (.lst (ns.map V.int))) else none) := fun b => by
      by_cases hb : b = a
      · exact Or.inr ⟨_, _, at_a hb⟩
      · exact Or.inl (off_a hb)
    refine law_from kin glob blt boot nolim gens script room F bind _ only (promise _ only (Or.inl (Or.inr ⟨_, at_a rfl⟩))) (fun b u z => ?_) (fun b z => ?_) (fun _ => own)
    · by_cases hb : b = a
      · have e := (at_a hb).symm.trans z
        cases e
        subst hb
        exact ⟨script, by rw [List.length_map]; exact few, vals, _, rel, script⟩
      · have e := (off_a hb).symm.trans z
        cases e
    · by_cases hb : b = a
      · exact hb
      · exact absurd (off_a hb) z
end
/-- the goal that the head leaves, from the law's promise -/
theorem walk_g {l : PySem.W.OpenLaw} {n k : Nat} {q : Program} {loose : List Str} {XP : (Str → Option Value) → Heap → Prop} {YP : World → Heap → Prop} {d : DefRec} {K : Params → PySem.W.Frag} {sp : PySem.W.Frag → Sp} {x : Str}
    (hn : l.most = some n) (few : n ≤ sizeLine) (hdf : d.params.defaults = []) (room : Room k callerA) (hY : ∀ (w : World) (h : Heap), YP w h → (K w.params).In h)
    (F : ∀ (w : World) (mg : Str → Option Value) (fa : Addr) (h : Heap), (K w.params).In h → h.Ns mainGlobals mg → mg d.name = some (.ref fa) →
      ∃ fd : FuncData, (∀ (s : Shared) (u : Value), BindsTo s fd ⟨[u], []⟩ [(x, u)]) ∧ ∀ base : Heap, (K w.params).In base → base.Ns mainGlobals mg → FnG l.prog w (K w.params) mg base k fa fd [x] (sp (K w.params)))
    (promise : ∀ (K : PySem.W.Frag) (H : Hp) (a : Addr) (ns : List Int), ns.length ≤ n → SqL K H a (ns.map V.int) → sp K [.ref a] H (fun v _ => v = .bl true) E0) :
    PySem.W.WalkO q loose XP YP l.row.toRowW d [] (fun f vs => PySem.call f vs) := by
  refine Att.attach_call hn hdf fun w s₀ s₁ mg mb fa o pm cd doc a vs ns G Y ho hd hcd hmg hobj hints hlen hg => ?_
  have kin := hY w _ Y
  obtain ⟨fd, bind, made⟩ := F w mg fa _ kin G.T.g hmg
  exact law_g kin G.T.g G.T.b G.T.builtins G.T.nolimit hg hobj hints (Nat.le_trans hlen few) room made bind fun H _ hS => promise _ H a ns hlen hS
end NL

/-! plans as trees, and as they lie in the heap -/
namespace NL
open PySem L2 Evl
inductive Tr where
  | hand (n : Str)
  | grp (n : Str) (b : Int) (ms : List Tr)
/-- name, whether it is a group, the groups around it -/
abbrev Rw := Str × Bool × List Str
mutual
def Tr.told : Tr → List Str → List Rw
  | .hand n, p => [(n, false, p)]
  | .grp n _ ms, p => (n, true, p) :: tolds ms (n :: p)
def tolds : List Tr → List Str → List Rw
  | [], _ => []
  | t :: ts, p => t.told p ++ tolds ts p
end
mutual
def Tr.size : Tr → Nat
  | .hand _ => 1
  | .grp _ _ ms => sizes ms + 1
def sizes : List Tr → Nat
  | [] => 0
  | t :: ts => t.size + sizes ts
end
mutual
def Tr.deep : Tr → Nat
  | .hand _ => 0
  | .grp _ _ ms => deeps ms + 1
def deeps : List Tr → Nat
  | [] => 0
  | t :: ts => max t.deep (deeps ts)
end
mutual
theorem told_len : ∀ (t : Tr) (p : List Str), (t.told p).length = t.size
  | .hand n, p => by simp [Tr.told, Tr.size]
  | .grp n b ms, p => by simp [Tr.told, Tr.size, tolds_len ms]
theorem tolds_len : ∀ (ts : List Tr) (p : List Str), (tolds ts p).length = sizes ts
  | [], p => by simp [tolds, sizes]
  | t :: ts, p => by simp [tolds, sizes, told_len t, tolds_len ts]
end
mutual
inductive TrV (H : Hp) : V → Tr → Prop
  | hand (n : Str) : TrV H (.str n) (.hand n)
  | grp {a m : Addr} {n : Str} {b : Int} {xs : List V} {ms : List Tr} : H a = some (.tup [.str n, .int b, .ref m]) → H m = some (.tup xs) → TrVs H xs ms → TrV H (.ref a) (.grp n b ms)
inductive TrVs (H : Hp) : List V → List Tr → Prop
  | nil : TrVs H [] []
  | cons {v : V} {vs : List V} {t : Tr} {ts : List Tr} : TrV H v t → TrVs H vs ts → TrVs H (v :: vs) (t :: ts)
end
/-- tuples stay -/
def TK (H H' : Hp) : Prop := ∀ a xs, H a = some (.tup xs) → H' a = some (.tup xs)
theorem TK.refl (H : Hp) : TK H H := fun _ _ e => e
theorem TK.trans {H H1 H2 : Hp} (a : TK H H1) (b : TK H1 H2) : TK H H2 := fun x o e => b x o (a x o e)
theorem TK.ex {H H' : Hp} (e : Ex H H') : TK H H' := fun a xs h => e a _ h
theorem TK.put {H : Hp} {p : Addr} {o : HO} (h : ∀ xs, H p ≠ some (.tup xs)) : TK H (upd H p o) := fun a xs e => by
  rw [upd_ne (fun z => by subst z; exact h _ e)]
  exact e
theorem TK.lst {H : Hp} {p : Addr} {o : HO} {ys : List V} (h : H p = some (.lst ys)) : TK H (upd H p o) := TK.put fun xs e => by rw [h] at e; cases e
theorem TK.new {H : Hp} {p : Addr} {o : HO} (h : H p = none) : TK H (upd H p o) := TK.put fun xs e => by rw [h] at e; cases e
mutual
theorem trv_tk {H H' : Hp} (k : TK H H') : ∀ (t : Tr) (v : V), TrV H v t → TrV H' v t
  | .hand n, _, h => by cases h; exact .hand n
  | .grp n b ms, _, h => by
    cases h with
    | grp h1 h2 h3 => exact .grp (k _ _ h1) (k _ _ h2) (trvs_tk k ms _ h3)
theorem trvs_tk {H H' : Hp} (k : TK H H') : ∀ (ts : List Tr) (vs : List V), TrVs H vs ts → TrVs H' vs ts
  | [], _, h => by cases h; exact .nil
  | t :: ts, _, h => by
    cases h with
    | cons h1 h2 => exact .cons (trv_tk k t _ h1) (trvs_tk k ts _ h2)
end
theorem trvs_get {H : Hp} : ∀ {vs : List V} {ts : List Tr} {i : Nat} {v : V}, TrVs H vs ts → vs[i]? = some v → ∃ t, ts[i]? = some t ∧ TrV H v t
  | _, _, _, _, .nil, e => by simp at e
  | _, _, 0, _, .cons r _, e => by simp at e; subst e; exact ⟨_, rfl, r⟩
  | _, _, i + 1, v, .cons _ t, e => by
    obtain ⟨d, h1, h2⟩ := trvs_get (i := i) (v := v) t (by simpa using e)
    exact ⟨d, by simpa using h1, h2⟩
theorem trvs_len {H : Hp} : ∀ {vs : List V} {ts : List Tr}, TrVs H vs ts → vs.length = ts.length
  | _, _, .nil => rfl
  | _, _, .cons _ t => by rw [List.length_cons, List.length_cons, trvs_len t]
theorem tolds_take : ∀ (ts : List Tr) (i : Nat) (t : Tr) (p : List Str), ts[i]? = some t → tolds (ts.take (i + 1)) p = tolds (ts.take i) p ++ t.told p
  | [], _, _, _, h => by simp at h
  | u :: ts, 0, t, p, h => by
    simp at h
    subst h
    simp [tolds]
  | u :: ts, i + 1, t, p, h => by
    have ih := tolds_take ts i t p (by simpa using h)
    simp only [List.take_succ_cons, tolds]
    rw [ih, List.append_assoc]
theorem sizes_mem : ∀ {ts : List Tr} {i : Nat} {t : Tr}, ts[i]? = some t → t.size ≤ sizes ts
  | [], _, _, h => by simp at h
  | u :: ts, 0, t, h => by simp at h; subst h; simp [sizes]
  | u :: ts, i + 1, t, h => by
    have := sizes_mem (ts := ts) (i := i) (t := t) (by simpa using h)
    simp only [sizes]
    omega
theorem deeps_mem : ∀ {ts : List Tr} {i : Nat} {t : Tr}, ts[i]? = some t → t.deep ≤ deeps ts
  | [], _, _, h => by simp at h
  | u :: ts, 0, t, h => by simp at h; subst h; simp only [deeps]; exact Nat.le_max_left _ _
  | u :: ts, i + 1, t, h => by
    have := deeps_mem (ts := ts) (i := i) (t := t) (by simpa using h)
    simp only [deeps]
    exact Nat.le_trans this (Nat.le_max_right _ _)
theorem sizes_take : ∀ (ts : List Tr) (i : Nat), sizes (ts.take i) ≤ sizes ts
  | [], i => by simp [sizes]
  | t :: ts, 0 => by simp [sizes]
  | t :: ts, i + 1 => by
    have := sizes_take ts i
    simp only [List.take_succ_cons, sizes]
    omega
/-- a row of a tale of a plan, in the heap -/
def RowT (H : Hp) (v : V) (r : Rw) : Prop := ∃ a pa, v = .ref a ∧ H a = some (.tup [.str r.1, .bl r.2.1, .ref pa]) ∧ H pa = some (.tup (r.2.2.map V.str))
inductive Rows (H : Hp) : List V → List Rw → Prop
  | nil : Rows H [] []
  | cons {v : V} {vs : List V} {r : Rw} {rs : List Rw} : RowT H v r → Rows H vs rs → Rows H (v :: vs) (r :: rs)
theorem RowT.tk {H H' : Hp} {v : V} {r : Rw} (k : TK H H') (h : RowT H v r) : RowT H' v r := by
  obtain ⟨a, pa, e, h1, h2⟩ := h
  exact ⟨a, pa, e, k _ _ h1, k _ _ h2⟩
theorem Rows.tk {H H' : Hp} (k : TK H H') : ∀ {vs : List V} {rs : List Rw}, Rows H vs rs → Rows H' vs rs
  | _, _, .nil => .nil
  | _, _, .cons a b => .cons (a.tk k) (b.tk k)
theorem Rows.app {H : Hp} : ∀ {vs us : List V} {rs qs : List Rw}, Rows H vs rs → Rows H us qs → Rows H (vs ++ us) (rs ++ qs)
  | _, _, _, _, .nil, h => h
  | _, _, _, _, .cons a b, h => .cons a (b.app h)
theorem Rows.one {H : Hp} {v : V} {r : Rw} (h : RowT H v r) : Rows H [v] [r] := .cons h .nil
theorem Rows.len {H : Hp} : ∀ {vs : List V} {rs : List Rw}, Rows H vs rs → vs.length = rs.length
  | _, _, .nil => rfl
  | _, _, .cons _ t => by rw [List.length_cons, List.length_cons, t.len]
theorem Rows.get {H : Hp} : ∀ {vs : List V} {rs : List Rw} {i : Nat} {v : V}, Rows H vs rs → vs[i]? = some v → ∃ r, rs[i]? = some r ∧ RowT H v r
  | _, _, _, _, .nil, e => by simp at e
  | _, _, 0, _, .cons r _, e => by simp at e; subst e; exact ⟨_, rfl, r⟩
  | _, _, i + 1, v, .cons _ t, e => by
    obtain ⟨d, h1, h2⟩ := t.get (i := i) (v := v) (by simpa using e)
    exact ⟨d, by simpa using h1, h2⟩
/-- isinstance(x, T), by the thing's kind -/
theorem ev_isK {K : PySem.W.Frag} {σ : L2.St} {H : Hp} {ta : TE} {x : V} {T S : String} {b : Bool} (ha : Ev ta σ H x) (ty : ∀ H2, Ex H H2 → TyX K H2 x (.type S)) (hk : kitB S T = some b) : Ev (tCB (rIsi K) (tCons ta (tCons (tC (.ty T)) tNil))) σ H (.bl b) := fun H1 e Q q =>
  ha H1 e _ fun H2 e2 => ⟨x, .ty T, _, _, b, rfl, .ty T, ty H2 (e.trans e2), kit_ty hk, q H2 e2⟩
theorem q_asgG {te : TE} {g : TG} {tz : TS} {D : Ends} {σ : L2.St} {H : Hp} (h : te σ H fun x H1 => g x σ H1 fun σ2 H2 => tz D σ2 H2) : tSeq (tAsg te g) tz D σ H := h
def Tr.isHand : Tr → Bool
  | .hand _ => true
  | _ => false
theorem ev_isHand {K : PySem.W.Frag} {σ : L2.St} {H : Hp} {ta : TE} {x : V} {t : Tr} (ha : Ev ta σ H x) (h : TrV H x t) : Ev (tCB (rIsi K) (tCons ta (tCons (tC (.ty "str")) tNil))) σ H (.bl t.isHand) := by
  cases h with
  | hand n => exact ev_isK ha (fun H2 _ => .base (.str n)) (by decide +kernel : kitB "str" "str" = some true)
  | grp h1 h2 h3 => exact ev_isK ha (fun H2 e => .base (.tup (e _ _ h1))) (by decide +kernel : kitB "tuple" "str" = some false)
theorem find_at {α : Type} {p : α → Bool} : ∀ {rs : List α} {i : Nat} {r : α}, (∀ x ∈ rs.take i, p x = false) → rs[i]? = some r → p r = true → rs.find? p = some r
  | [], _, _, _, h, _ => by simp at h
  | x :: rs, 0, r, _, h, hp => by
    simp at h
    subst h
    simp [List.find?_cons, hp]
  | x :: rs, i + 1, r, hn, h, hp => by
    have h0 := hn x (by simp)
    have := find_at (p := p) (rs := rs) (i := i) (r := r) (fun y hy => hn y (by simp [hy])) (by simpa using h) hp
    simp [List.find?_cons, h0, this]
theorem find_none {α : Type} {p : α → Bool} {rs : List α} (h : ∀ x ∈ rs, p x = false) : rs.find? p = none := by
  rw [List.find?_eq_none]
  intro x hx
  rw [h x hx]
  decide
theorem filter_take {α : Type} {p : α → Bool} {rs : List α} {i : Nat} {r : α} (h : rs[i]? = some r) : (rs.take (i + 1)).filter p = (rs.take i).filter p ++ (if p r = true then [r] else []) := by
  rw [List.take_succ, h, List.filter_append]
  simp [List.filter_cons]
/-! ### names -/
def letter (c : Nat) : Bool := decide (97 ≤ c) && decide (c ≤ 122)
def nameOk (s : Str) : Prop := 1 ≤ s.length ∧ s.length ≤ 8 ∧ ∀ c ∈ s.cps.toList, 97 ≤ c ∧ c ≤ 122
def midOf (k : Nat) : List Nat := if k = 0 then [] else if k = 1 then [113] else [120]
/-- the name of a spot, as codes -/
def spotL (s : Nat) (stem : List Nat) : List Nat := (97 + s % 26) :: (midOf (s / 26) ++ stem)
theorem spot_inj {s s' : Nat} {stem : List Nat} (h1 : s < 60) (h2 : s' < 60) (h : spotL s stem = spotL s' stem) : s = s' := by
  unfold spotL at h
  have ha : s % 26 = s' % 26 := by
    have := (List.cons.inj h).1
    omega
  have hb := (List.cons.inj h).2
  have hc : midOf (s / 26) = midOf (s' / 26) := List.append_cancel_right hb
  have hd : s / 26 = s' / 26 := by
    have c1 : s / 26 = 0 ∨ s / 26 = 1 ∨ s / 26 = 2 := by omega
    have c2 : s' / 26 = 0 ∨ s' / 26 = 1 ∨ s' / 26 = 2 := by omega
    rcases c1 with c1 | c1 | c1 <;> rcases c2 with c2 | c2 | c2 <;> rw [c1, c2] at hc ⊢ <;> simp [midOf] at hc
  omega
theorem spot_letters {s : Nat} {stem : List Nat} (hs : ∀ c ∈ stem, 97 ≤ c ∧ c ≤ 122) : ∀ c ∈ spotL s stem, 97 ≤ c ∧ c ≤ 122 := by
  intro c hc
  unfold spotL at hc
  rcases List.mem_cons.mp hc with rfl | hc
  · omega
  · rcases List.mem_append.mp hc with hc | hc
    · unfold midOf at hc
      split at hc
      · cases hc
      · split at hc
        · simp at hc; omega
        · simp at hc; omega
    · exact hs c hc
theorem spot_len (s : Nat) (stem : List Nat) : (spotL s stem).length ≤ stem.length + 2 ∧ 1 ≤ (spotL s stem).length := by
  unfold spotL midOf
  simp only [List.length_cons, List.length_append]
  split
  · simp
  · split <;> simp <;> omega
theorem nodup_set {xs : List Str} {w : Str} (h : xs.Nodup) (hw : w ∉ xs) : ∀ j : Nat, (xs.set j w).Nodup := by
  induction xs with
  | nil => intro j; simp
  | cons x xs ih =>
    intro j
    have hx := List.nodup_cons.mp h
    cases j with
    | zero =>
      simp only [List.set_cons_zero]
      exact List.nodup_cons.mpr ⟨fun z => hw (List.mem_cons_of_mem _ z), hx.2⟩
    | succ j =>
      simp only [List.set_cons_succ]
      refine List.nodup_cons.mpr ⟨fun z => ?_, ih hx.2 (fun z => hw (List.mem_cons_of_mem _ z)) j⟩
      rcases List.mem_or_eq_of_mem_set z with z | z
      · exact hx.1 z
      · exact hw (by rw [← z]; exact List.mem_cons_self ..)
theorem map_nodup {α : Type} {f : Nat → α} {n : Nat} (h : ∀ i j, i < n → j < n → f i = f j → i = j) : ((List.range n).map f).Nodup := by
  unfold List.Nodup
  rw [List.pairwise_map]
  refine List.Pairwise.imp_of_mem (fun {a b} ha hb hab => ?_) (List.nodup_range (n := n))
  intro e
  exact hab (h a b (List.mem_range.mp ha) (List.mem_range.mp hb) e)
theorem q_parP {i j : Nat} {ta : TA} {tz : TS} {D : Ends} {σ : L2.St} {H : Hp} (h : ta σ H fun vs H1 => ∃ v w, vs = [v, w] ∧ tz D ((σ.set i (some v)).set j (some w)) H1) : tSeq (tPar i j ta) tz D σ H := h
theorem in_strs {x : Str} {xs : List Str} : inV (.str x) (xs.map V.str) = decide (x ∈ xs) := by
  unfold inV
  rw [List.any_map]
  rw [Bool.eq_iff_iff, List.any_eq_true, decide_eq_true_eq]
  constructor
  · intro ⟨y, hy, e⟩
    have : y = x := by simpa [eqV] using e
    subst this
    exact hy
  · intro h
    exact ⟨x, h, by simp [eqV]⟩
theorem flat_strs (xs : List Str) : (xs.map V.str).all flatV = true := by
  rw [List.all_map, List.all_eq_true]
  intro x _
  rfl
theorem tYesQ {σ : L2.St} {H : Hp} {A B : Hp → Prop} (h : A H) : tYes σ H fun b H3 => if b = true then A H3 else B H3 := by
  show if true = true then A H else B H
  rw [if_pos rfl]
  exact h
/-- a loop over a new tuple -/
theorem q_forTu {K : PySem.W.Frag} {σ : L2.St} {H : Hp} {xs : List V} {tl : TE} {j : Nat} {tu tz : TS} {D : Ends} (h : EvU tl σ H xs) (Pv : Addr → Nat → L2.St → Hp → Prop) (h0 : ∀ p H1, H p = none → Ex H H1 → H1 p = some (.tup xs) → Pv p 0 σ H1) (hl : ∀ p i σ' H', i ≤ xs.length → Pv p i σ' H' → SqT K H' p xs)
    (hs : ∀ p i x σ' H', xs[i]? = some x → Pv p i σ' H' → tu { D with nx := Pv p (i + 1), ct := Pv p (i + 1), bk := tz D } (σ'.set j (some x)) H') (hd : ∀ p σ' H', Pv p xs.length σ' H' → tz D σ' H') : tSeq (tFor (iTup K tl) (gName j) tu) tz D σ H := by
  refine h H (Ex.refl H) _ fun p H1 fresh e at_p => ?_
  exact ⟨p, rfl, ⟨xs, st_of at_p⟩, for_tup (Pv p) (h0 p H1 fresh e at_p) (hl p) (hs p) (hd p)⟩
/-! ### names of a tree -/
mutual
def Tr.nms : Tr → List Str
  | .hand n => [n]
  | .grp n _ ms => n :: nmss ms
def nmss : List Tr → List Str
  | [] => []
  | t :: ts => t.nms ++ nmss ts
end
mutual
theorem told_nms : ∀ (t : Tr) (p : List Str), (t.told p).map (·.1) = t.nms
  | .hand n, p => by simp [Tr.told, Tr.nms]
  | .grp n b ms, p => by simp [Tr.told, Tr.nms, tolds_nms ms]
theorem tolds_nms : ∀ (ts : List Tr) (p : List Str), (tolds ts p).map (·.1) = nmss ts
  | [], p => by simp [tolds, nmss]
  | t :: ts, p => by simp [tolds, nmss, told_nms t, tolds_nms ts]
end
theorem nms_len (t : Tr) : t.nms.length = t.size := by rw [← told_nms t [], List.length_map, told_len]
theorem nmss_len (ts : List Tr) : (nmss ts).length = sizes ts := by rw [← tolds_nms ts [], List.length_map, tolds_len]
theorem nmss_app : ∀ (ts us : List Tr), nmss (ts ++ us) = nmss ts ++ nmss us
  | [], us => by simp [nmss]
  | t :: ts, us => by simp [nmss, nmss_app ts us]
theorem sizes_app : ∀ (ts us : List Tr), sizes (ts ++ us) = sizes ts + sizes us
  | [], us => by simp [sizes]
  | t :: ts, us => by simp [sizes, sizes_app ts us]; omega
theorem deeps_app : ∀ (ts us : List Tr), deeps (ts ++ us) = max (deeps ts) (deeps us)
  | [], us => by simp [deeps]
  | t :: ts, us => by simp [deeps, deeps_app ts us, Nat.max_assoc]
theorem trvs_app {H : Hp} : ∀ {vs us : List V} {ts qs : List Tr}, TrVs H vs ts → TrVs H us qs → TrVs H (vs ++ us) (ts ++ qs)
  | _, _, _, _, .nil, h => h
  | _, _, _, _, .cons a b, h => .cons a (trvs_app b h)
mutual
def Tr.ok : Tr → Prop
  | .hand _ => True
  | .grp _ b ms => 1 ≤ b ∧ b ≤ 99999999 ∧ ms ≠ [] ∧ oks ms
def oks : List Tr → Prop
  | [] => True
  | t :: ts => t.ok ∧ oks ts
end
theorem oks_app : ∀ {ts us : List Tr}, oks ts → oks us → oks (ts ++ us)
  | [], _, _, h => h
  | _ :: _, _, a, h => by
    simp only [oks, List.cons_append] at a ⊢
    exact ⟨a.1, oks_app a.2 h⟩
/-- how many names a member takes at most -/
def mem : Nat → Nat → Nat
  | 0, _ => 1
  | d + 1, w => 1 + w * mem d w
theorem mem_pos : ∀ d w, 1 ≤ mem d w
  | 0, _ => by simp [mem]
  | d + 1, w => by simp [mem]
/-- all stays but the hand and one list -/
def Kn (h l m : Addr) (H H' : Hp) : Prop := ∀ a o, a ≠ h → a ≠ l → a ≠ m → H a = some o → H' a = some o
theorem Kn.refl (h l m : Addr) (H : Hp) : Kn h l m H H := fun _ _ _ _ _ e => e
theorem Kn.trans {h l m : Addr} {H H1 H2 : Hp} (a : Kn h l m H H1) (b : Kn h l m H1 H2) : Kn h l m H H2 := fun x o n1 n2 n3 e => b x o n1 n2 n3 (a x o n1 n2 n3 e)
theorem Kn.kp {h l m : Addr} {H H1 : Hp} (a : Kp h l H H1) : Kn h l m H H1 := fun x o n1 n2 _ e => a x o n1 n2 e
theorem Kn.ex {h l m : Addr} {H H1 : Hp} (a : Ex H H1) : Kn h l m H H1 := fun x o _ _ _ e => a x o e
theorem Kn.put {h l m : Addr} {H H1 : Hp} {o : HO} (a : Kn h l m H H1) : Kn h l m H (upd H1 m o) := fun x u n1 n2 n3 e => by
  rw [upd_ne n3]
  exact a x u n1 n2 n3 e
theorem Kn.mut {h l m p : Addr} {H H1 : Hp} {o : HO} (a : Kn h l m H H1) (hp : H p = none) : Kn h l m H (upd H1 p o) := fun x u n1 n2 n3 e => by
  rw [upd_ne (fun z => by subst z; rw [hp] at e; cases e)]
  exact a x u n1 n2 n3 e
theorem Kn.tk {h l m : Addr} {H H1 : Hp} {ys : List V} (A : Hand H h l) (hm : H m = some (.lst ys)) (a : Kn h l m H H1) : TK H H1 := fun x xs e => by
  obtain ⟨n1, n2⟩ := A.off e (fun _ z => by cases z)
  exact a x _ n1 n2 (fun z => by subst z; rw [hm] at e; cases e) e
theorem q_forU {wi : TI} {g : TG} {tb tz : TS} {D : Ends} {σ : L2.St} {H : Hp} (h : wi σ H fun J H1 => ∃ W : Nat → Nat → L2.St → Hp → Prop, (∃ m, W 0 m σ H1) ∧ ∀ i m σ H, W i m σ H →
    (J.stop i H ∧ tz D σ H) ∨ (J.go i H ∧ ∃ N : L2.St → Hp → Prop, (∀ σ' H', N σ' H' → ∃ m', m' < m ∧ W (i + 1) m' σ' H') ∧ ∀ x H', J.yld i H x H' → g x σ H' fun σ2 H2 => tb { D with nx := N, ct := N, bk := tz D } σ2 H2)) : tSeq (tFor wi g tb) tz D σ H := h
theorem rng_turns {g : TG} {tb tz : TS} {D : Ends} {σ : L2.St} {H : Hp} {n : Nat} (Pv : Nat → L2.St → Hp → Prop) (h0 : Pv 0 σ H) (hs : ∀ (i : Nat) σ' H', i < n → Pv i σ' H' → g (.int (0 + (i : Int))) σ' H' fun σ2 H2 => tb { D with nx := Pv (i + 1), ct := Pv (i + 1), bk := tz D } σ2 H2) (hd : ∀ σ' H', Pv n σ' H' → tz D σ' H') :
    ∃ W : Nat → Nat → L2.St → Hp → Prop, (∃ m, W 0 m σ H) ∧ ∀ i m σ H, W i m σ H →
    ((Itr 0 n).stop i H ∧ tz D σ H) ∨ ((Itr 0 n).go i H ∧ ∃ N : L2.St → Hp → Prop, (∀ σ' H', N σ' H' → ∃ m', m' < m ∧ W (i + 1) m' σ' H') ∧ ∀ x H', (Itr 0 n).yld i H x H' → g x σ H' fun σ2 H2 => tb { D with nx := N, ct := N, bk := tz D } σ2 H2) :=
  for_range (lo := 0) (n := n) (D := { D with nx := tz D }) Pv h0 hs hd
theorem last_of {xs : List Str} (h : 1 ≤ xs.length) : ∃ ys n, xs = ys ++ [n] := by
  refine ⟨xs.dropLast, xs.getLast (fun z => by subst z; simp at h), ?_⟩
  exact (List.dropLast_concat_getLast _).symm
theorem last_get (ys : List Str) (n : Str) : ((ys ++ [n]).map V.str)[((ys ++ [n]).map V.str).length - 1]? = some (.str n) := by
  simp
theorem last_drop (ys : List Str) (n : Str) : ((ys ++ [n]).map V.str).dropLast = ys.map V.str := by
  rw [List.map_append]
  simp
end NL

/-! repr of what lies in the heap; plans as data -/
namespace NL
open PySem PySem.Spec PyProof.Rows L2 Evl
/-- data whose text fits -/
def shows (d : PyData) : Prop := d.showable = true ∧ d.hasDict = false ∧ d.depth ≤ 64 ∧ d.shown.length ≤ 100000
def rRepr (K : PySem.W.Frag) : List V → Hp → VK → Prop := fun xs H Q => ∃ (a : Addr) (d : PyData), xs = [.ref a] ∧ Dp K H (.ref a) d ∧ shows d ∧ Q (.str d.shown) H
theorem hu_r {k : Nat} {A : Around} (hr : Room k A) : A.units + 100 < cLine := by
  have := hr.un
  omega
theorem reprK {X : Cx} {K : PySem.W.Frag} (h : X.K = K) (quiet : X.A.guards = some []) (room : X.A.units + 100 < cLine) : CallR X (.builtin "repr") (rRepr K) := by
  subst h
  intro pins s σ H xs us Q I rel told
  obtain ⟨a, d, e, data, ⟨s1, s2, s3, s4⟩, q⟩ := told
  subst e
  obtain ⟨u, eu, ru⟩ := vals1 rel
  subst eu
  cases ru
  obtain ⟨as, reads⟩ := Dp.reads I d (.ref a) (.ref a) data rfl
  refine repr_of_reads' reads s1 (fun z => ?_) quiet (by omega) (fun b o e => e) (fun h' u tk kept => ?_) (Nat.le_trans s4 (by decide))
  · rw [s2] at z
    cases z
  · exact ⟨.str d.shown, H, I.kept kept, ⟨u, rfl⟩, q⟩
section
variable {K : PySem.W.Frag} {σ : L2.St} {H : Hp} {ta te : TE}
theorem ev_repr {a : Addr} {d : PyData} (ha : Ev ta σ H (.ref a)) (hd : Dp K H (.ref a) d) (hs : shows d) : Ev (tCB (rRepr K) (tCons ta tNil)) σ H (.str d.shown) := fun H1 e Q q =>
  ha H1 e _ fun H2 e2 => ⟨a, d, rfl, dp_mono (e.trans e2) hd, hs, q H2 e2⟩
/-- evaluates to some tuple of these things -/
def EvP (te : TE) (σ : L2.St) (H : Hp) (xs : List V) : Prop := ∀ H1, Ex H H1 → ∀ Q : VK, (∀ p H2, Ex H1 H2 → H2 p = some (.tup xs) → Q (.ref p) H2) → te σ H1 Q
theorem dpa_strs {H : Hp} : ∀ ns : List Str, DpAll K H (ns.map V.str) (ns.map PyData.str)
  | [] => .nil
  | n :: r => .cons (.str n) (dpa_strs r)
theorem ev_reprP {ns : List Str} (h : EvP te σ H (ns.map V.str)) (hs : shows (.tuple (ns.map PyData.str))) : Ev (tCB (rRepr K) (tCons te tNil)) σ H (.str (PyData.tuple (ns.map PyData.str)).shown) := fun H1 e Q q =>
  h H1 e _ fun p H2 e2 hp => ⟨p, _, rfl, .tup (st_of hp) (dpa_strs ns), hs, q H2 e2⟩
end
/-! ### how long a text is -/
theorem join_len (sep : Str) : ∀ ts : List Str, (Str.join sep ts).length ≤ (ts.map fun t => t.length + sep.length).sum
  | [] => by simp [Str.join, Str.empty, Str.length]
  | [t] => by simp [Str.join]
  | t :: u :: r => by
    have ih := join_len sep (u :: r)
    simp only [Str.join, Str.length_append, List.map_cons, List.sum_cons] at ih ⊢
    omega
theorem tuple_len (ts : List Str) : (tupleText ts).length ≤ (ts.map fun t => t.length + 2).sum + 3 := by
  unfold tupleText
  rw [Str.length_append, Str.length_append]
  have h := join_len ", " ts
  have e1 : (", " : Str).length = 2 := by decide +kernel
  have e2 : ("(" : Str).length = 1 := by decide +kernel
  rw [e1] at h
  have e3 : (Str.ofString (if (ts.length == 1) = true then ",)" else ")" : String)).length ≤ 2 := by
    split
    · decide +kernel
    · decide +kernel
  omega
theorem name_len {n : Str} (h : nameOk n) : (PyData.str n).shown.length ≤ 82 := by
  have e : (PyData.str n).shown = reprText n := by simp only [PyData.shown]
  rw [e]
  have := StrLaws.reprText_len n (fun c hc => by have := h.2.2 c hc; omega)
  have := h.2.1
  omega
theorem sum_le {α : Type} {f : α → Nat} {b : Nat} : ∀ {l : List α}, (∀ x ∈ l, f x ≤ b) → (l.map f).sum ≤ b * l.length
  | [], _ => by simp
  | x :: l, h => by
    have h1 := h x (List.mem_cons_self ..)
    have h2 := sum_le (f := f) (b := b) (l := l) (fun y hy => h y (List.mem_cons_of_mem _ hy))
    simp only [List.map_cons, List.sum_cons, List.length_cons, Nat.mul_succ]
    omega
theorem shownAll_map : ∀ ds : List PyData, PyData.shownAll ds = ds.map PyData.shown
  | [] => by simp [PyData.shownAll]
  | d :: ds => by simp [PyData.shownAll, shownAll_map ds]
theorem shows_names {ns : List Str} (h : ∀ n ∈ ns, nameOk n) (hl : ns.length ≤ 1000) : shows (.tuple (ns.map PyData.str)) := by
  refine ⟨?_, ?_, ?_, ?_⟩
  · simp only [PyData.showable]
    clear h hl
    induction ns with
    | nil => simp [PyData.showableAll]
    | cons n r ih => simp [PyData.showableAll, PyData.showable, ih]
  · simp only [PyData.hasDict]
    clear h hl
    induction ns with
    | nil => simp [PyData.hasDictAll]
    | cons n r ih => simp [PyData.hasDictAll, PyData.hasDict, ih]
  · simp only [PyData.depth]
    have : PyData.depthAll (ns.map PyData.str) = 0 := by
      clear h hl
      induction ns with
      | nil => simp [PyData.depthAll]
      | cons n r ih => simp [PyData.depthAll, PyData.depth, ih]
    omega
  · simp only [PyData.shown, shownAll_map]
    have t := tuple_len ((ns.map PyData.str).map PyData.shown)
    have s := sum_le (f := fun t : Str => t.length + 2) (b := 84) (l := (ns.map PyData.str).map PyData.shown) (fun x hx => by
      obtain ⟨d, hd, rfl⟩ := List.mem_map.mp hx
      obtain ⟨n, hn, rfl⟩ := List.mem_map.mp hd
      have := name_len (h n hn)
      omega)
    simp only [List.length_map] at s
    omega
/-! ### a plan as a datum -/
mutual
def Tr.dat : Tr → PyData
  | .hand n => .str n
  | .grp n b ms => .tuple [.str n, .int b, .tuple (dats ms)]
def dats : List Tr → List PyData
  | [] => []
  | t :: ts => t.dat :: dats ts
end
mutual
theorem trv_dp {K : PySem.W.Frag} {H : Hp} : ∀ (t : Tr) (v : V), TrV H v t → Dp K H v t.dat
  | .hand n, _, h => by cases h; simp only [Tr.dat]; exact .str n
  | .grp n b ms, _, h => by
    cases h with
    | grp h1 h2 h3 =>
      simp only [Tr.dat]
      exact .tup (st_of h1) (.cons (.str n) (.cons (.int b) (.cons (.tup (st_of h2) (trvs_dp ms _ h3)) .nil)))
theorem trvs_dp {K : PySem.W.Frag} {H : Hp} : ∀ (ts : List Tr) (vs : List V), TrVs H vs ts → DpAll K H vs (dats ts)
  | [], _, h => by cases h; simp only [dats]; exact .nil
  | t :: ts, _, h => by
    cases h with
    | cons h1 h2 =>
      simp only [dats]
      exact .cons (trv_dp t _ h1) (trvs_dp ts _ h2)
end
theorem ok_lay {n : Str} (h : nameOk n) : PyData.strOk n = true := by
  unfold PyData.strOk
  rw [Array.all_eq_true']
  intro c hc
  have := h.2.2 c (by simpa using hc)
  simp
  omega
mutual
theorem dat_facts : ∀ (t : Tr), (∀ n ∈ t.nms, nameOk n) → t.ok → t.dat.canLay0 = true ∧ t.dat.depth ≤ 2 * t.deep ∧ t.dat.showable = true ∧ t.dat.hasDict = false ∧ t.dat.shown.length + 2 ≤ 150 * t.size
  | .hand n, h, _ => by
    have hn := h n (by simp [Tr.nms])
    have := name_len hn
    simp only [Tr.dat, Tr.deep, Tr.size]
    refine ⟨by simp only [PyData.canLay0]; exact ok_lay hn, by simp [PyData.depth], by simp [PyData.showable], by simp [PyData.hasDict], by omega⟩
  | .grp n b ms, h, ho => by
    have hn := h n (by simp [Tr.nms])
    have hb := name_len hn
    simp only [Tr.ok] at ho
    obtain ⟨b1, b2, _, ho⟩ := ho
    obtain ⟨i1, i2, i3, i4, i5⟩ := dats_facts ms (fun m hm => h m (by simp [Tr.nms, hm])) ho
    have bl : b.natAbs.log2 < 27 := by
      have : b.natAbs < 2 ^ 27 := by omega
      by_cases h0 : b.natAbs = 0
      · rw [h0]; decide
      · exact (Nat.log2_lt h0).mpr this
    have it : (PyData.int b).shown.length ≤ 28 := by
      simp only [PyData.shown]
      have := int_text_length_le (a := b) (k := 27) (by decide) bl
      rw [PySem.ofString_length]
      exact this
    simp only [Tr.dat, Tr.deep, Tr.size]
    refine ⟨?_, ?_, ?_, ?_, ?_⟩
    · simp [PyData.canLay0, PyData.canLayAll0, ok_lay hn, i1]
    · simp only [PyData.depth, PyData.depthAll]
      omega
    · simp only [PyData.showable, PyData.showableAll, i3, Bool.and_true, Bool.true_and, decide_eq_true_eq]
      omega
    · simp [PyData.hasDict, PyData.hasDictAll, i4]
    · have t1 := tuple_len [(PyData.str n).shown, (PyData.int b).shown, (PyData.tuple (dats ms)).shown]
      have t2 := tuple_len ((dats ms).map PyData.shown)
      have e1 : (PyData.tuple [.str n, .int b, .tuple (dats ms)]).shown = tupleText [(PyData.str n).shown, (PyData.int b).shown, (PyData.tuple (dats ms)).shown] := by simp only [PyData.shown, PyData.shownAll]
      have e2 : (PyData.tuple (dats ms)).shown = tupleText ((dats ms).map PyData.shown) := by simp only [PyData.shown, shownAll_map]
      rw [e1]
      simp only [List.map_cons, List.map_nil, List.sum_cons, List.sum_nil] at t1
      rw [e2] at t1 ⊢
      omega
theorem dats_facts : ∀ (ts : List Tr), (∀ n ∈ nmss ts, nameOk n) → oks ts → PyData.canLayAll0 (dats ts) = true ∧ PyData.depthAll (dats ts) ≤ 2 * deeps ts ∧ PyData.showableAll (dats ts) = true ∧ PyData.hasDictAll (dats ts) = false ∧ (((dats ts).map PyData.shown).map fun t => t.length + 2).sum ≤ 150 * sizes ts
  | [], _, _ => by simp [dats, PyData.canLayAll0, PyData.depthAll, PyData.showableAll, PyData.hasDictAll, deeps, sizes]
  | t :: ts, h, ho => by
    simp only [oks] at ho
    obtain ⟨i1, i2, i3, i4, i5⟩ := dat_facts t (fun m hm => h m (by simp [nmss, hm])) ho.1
    obtain ⟨j1, j2, j3, j4, j5⟩ := dats_facts ts (fun m hm => h m (by simp [nmss, hm])) ho.2
    simp only [dats, PyData.canLayAll0, PyData.depthAll, PyData.showableAll, PyData.hasDictAll, deeps, sizes, i1, j1, i3, j3, i4, j4, List.map_cons, List.sum_cons]
    refine ⟨rfl, ?_, rfl, rfl, ?_⟩
    · omega
    · omega
end
theorem shows_plan {t : Tr} (h : ∀ n ∈ t.nms, nameOk n) (ho : t.ok) (hd : t.deep ≤ 12) (hs : t.size ≤ 600) : shows t.dat := by
  obtain ⟨i1, i2, i3, i4, i5⟩ := dat_facts t h ho
  exact ⟨i3, i4, by omega, by omega⟩
/-! ### what waits: a tree with the path around it -/
def QV (H : Hp) (v : V) (r : Tr × List Str) : Prop := ∃ a pa x, v = .ref a ∧ H a = some (.tup [x, .ref pa]) ∧ TrV H x r.1 ∧ H pa = some (.tup (r.2.map V.str))
inductive Queue (H : Hp) : List V → List (Tr × List Str) → Prop
  | nil : Queue H [] []
  | cons {v : V} {vs : List V} {r : Tr × List Str} {rs : List (Tr × List Str)} : QV H v r → Queue H vs rs → Queue H (v :: vs) (r :: rs)
theorem QV.tk {H H' : Hp} {v : V} {r : Tr × List Str} (k : TK H H') (h : QV H v r) : QV H' v r := by
  obtain ⟨a, pa, x, e, h1, h2, h3⟩ := h
  exact ⟨a, pa, x, e, k _ _ h1, trv_tk k _ _ h2, k _ _ h3⟩
theorem Queue.tk {H H' : Hp} (k : TK H H') : ∀ {vs : List V} {rs : List (Tr × List Str)}, Queue H vs rs → Queue H' vs rs
  | _, _, .nil => .nil
  | _, _, .cons a b => .cons (a.tk k) (b.tk k)
theorem Queue.app {H : Hp} : ∀ {vs us : List V} {rs qs : List (Tr × List Str)}, Queue H vs rs → Queue H us qs → Queue H (vs ++ us) (rs ++ qs)
  | _, _, _, _, .nil, h => h
  | _, _, _, _, .cons a b, h => .cons a (b.app h)
theorem Queue.len {H : Hp} : ∀ {vs : List V} {rs : List (Tr × List Str)}, Queue H vs rs → vs.length = rs.length
  | _, _, .nil => rfl
  | _, _, .cons _ t => by rw [List.length_cons, List.length_cons, t.len]
/-- all rows that what waits gives -/
def due : List (Tr × List Str) → List Rw
  | [] => []
  | (t, p) :: r => t.told p ++ due r
def loadQ : List (Tr × List Str) → Nat
  | [] => 0
  | (t, _) :: r => t.size + loadQ r
def fine : List (Tr × List Str) → Prop
  | [] => True
  | (t, p) :: r => ((∀ n ∈ t.nms, nameOk n) ∧ t.ok ∧ p.length + t.deep ≤ 12 ∧ (∀ n ∈ p, nameOk n)) ∧ fine r
theorem due_members : ∀ (ms : List Tr) (p : List Str) (r : List (Tr × List Str)), due (ms.map (fun m => (m, p)) ++ r) = tolds ms p ++ due r
  | [], p, r => by simp [tolds]
  | m :: ms, p, r => by simp [tolds, due, due_members ms p r]
theorem loadQ_members : ∀ (ms : List Tr) (p : List Str) (r : List (Tr × List Str)), loadQ (ms.map (fun m => (m, p)) ++ r) = sizes ms + loadQ r
  | [], p, r => by simp [sizes]
  | m :: ms, p, r => by simp [sizes, loadQ, loadQ_members ms p r]; omega
theorem fine_members : ∀ {ms : List Tr} {p : List Str} {r : List (Tr × List Str)}, (∀ n ∈ nmss ms, nameOk n) → oks ms → p.length + deeps ms ≤ 12 → (∀ n ∈ p, nameOk n) → fine r → fine (ms.map (fun m => (m, p)) ++ r)
  | [], _, _, _, _, _, _, h => h
  | m :: ms, p, r, h1, h2, h3, h4, h5 => by
    simp only [oks] at h2
    simp only [deeps] at h3
    refine ⟨⟨fun n hn => h1 n (by simp [nmss, hn]), h2.1, by omega, h4⟩, fine_members (fun n hn => h1 n (by simp [nmss, hn])) h2.2 (by omega) h4 h5⟩
def datQ : List (Tr × List Str) → List PyData
  | [] => []
  | (t, p) :: r => .tuple [t.dat, .tuple (p.map PyData.str)] :: datQ r
theorem queue_dp {K : PySem.W.Frag} {H : Hp} : ∀ {vs : List V} {rs : List (Tr × List Str)}, Queue H vs rs → DpAll K H vs (datQ rs)
  | _, _, .nil => .nil
  | _, (t, p) :: _, .cons h b => by
    obtain ⟨a, pa, x, rfl, h1, h2, h3⟩ := h
    exact .cons (.tup (st_of h1) (.cons (trv_dp t x h2) (.cons (.tup (st_of h3) (dpa_strs p)) .nil))) (queue_dp b)
theorem lay_strs : ∀ {p : List Str}, (∀ n ∈ p, nameOk n) → PyData.canLayAll0 (p.map PyData.str) = true ∧ PyData.depthAll (p.map PyData.str) = 0
  | [], _ => by simp [PyData.canLayAll0, PyData.depthAll]
  | n :: p, h => by
    have i := lay_strs (p := p) (fun m hm => h m (List.mem_cons_of_mem _ hm))
    simp [PyData.canLayAll0, PyData.canLay0, PyData.depthAll, PyData.depth, ok_lay (h n (List.mem_cons_self ..)), i.1, i.2]
theorem queue_lay : ∀ {q : List (Tr × List Str)}, fine q → PyData.canLayAll0 (datQ q) = true ∧ PyData.depthAll (datQ q) ≤ 30
  | [], _ => by simp [datQ, PyData.canLayAll0, PyData.depthAll]
  | (t, p) :: r, h => by
    obtain ⟨⟨h1, h2, h3, h4⟩, h5⟩ := h
    obtain ⟨i1, i2, _⟩ := dat_facts t h1 h2
    obtain ⟨j1, j2⟩ := lay_strs h4
    obtain ⟨k1, k2⟩ := queue_lay h5
    simp only [datQ, PyData.canLayAll0, PyData.canLay0, PyData.depthAll, PyData.depth, i1, j1, k1, j2]
    refine ⟨rfl, ?_⟩
    omega
theorem shaped_queue {q : List (Tr × List Str)} (h : fine q) : SeqAt.shaped (.list (datQ q)) = true := by
  obtain ⟨a, b⟩ := queue_lay h
  have c : PyData.canLay0 (.list (datQ q)) = true := by
    simp only [PyData.canLay0]
    exact a
  have d : PyData.depth (.list (datQ q)) ≤ 64 := by
    simp only [PyData.depth]
    omega
  unfold SeqAt.shaped
  rw [c, decide_eq_true d]
  rfl
theorem ev_neQueue {K : PySem.W.Frag} {σ : L2.St} {H : Hp} {ta : TE} {l : Addr} {vs : List V} {q : List (Tr × List Str)} (ha : Ev ta σ H (.ref l)) (hl : H l = some (.lst vs)) (hq : Queue H vs q) (hf : fine q) : Ev (tOp (rNeD K) ta (tLst tNil)) σ H (.bl (!q.isEmpty)) := by
  refine ev_opL (xs := []) ha (el_lst ea_nil (by decide)) fun p H1 hp e1 H2 e2 Q next => ?_
  refine ⟨.list (datQ q), .list [], .lst (sq_of ((e1.trans e2) _ _ hl)) (queue_dp (hq.tk (TK.ex (e1.trans e2)))), .lst (sq_of (e2 _ _ hp)) .nil, shaped_queue hf, by decide +kernel, ?_⟩
  have e : PyData.eqv (.list (datQ q)) (.list []) = q.isEmpty := by
    simp only [PyData.eqv, eqv_nil]
    cases q <;> rfl
  rw [e]
  exact next H2 (Ex.refl H2)
theorem nodup_rev {α : Type} {l : List α} (h : l.reverse.Nodup) : l.Nodup := by
  unfold List.Nodup at h ⊢
  rw [List.pairwise_reverse] at h
  exact h.imp Ne.symm
theorem s_asgP {te : TE} {D : Ends} {σ : L2.St} {H : Hp} {i : Nat} (h : te σ H fun v H1 => D.nx (σ.set i (some v)) H1) : tAsg te (gName i) D σ H := h
theorem size_pos (t : Tr) : 1 ≤ t.size := by
  cases t <;> simp [Tr.size]
theorem len_sizes : ∀ ts : List Tr, ts.length ≤ sizes ts
  | [] => by simp
  | t :: ts => by
    have := len_sizes ts
    have := size_pos t
    simp only [List.length_cons, sizes]
    omega
theorem len_load : ∀ q : List (Tr × List Str), q.length ≤ loadQ q
  | [] => by simp
  | (t, p) :: q => by
    have := len_load q
    have := size_pos t
    simp only [List.length_cons, loadQ]
    omega
mutual
theorem told_path : ∀ (t : Tr) (p : List Str) (r : Rw), r ∈ t.told p → (∀ x ∈ r.2.2, x ∈ p ∨ x ∈ t.nms) ∧ r.2.2.length ≤ p.length + t.deep
  | .hand n, p, r, h => by
    simp only [Tr.told, List.mem_singleton] at h
    subst h
    exact ⟨fun x hx => Or.inl hx, by simp⟩
  | .grp n b ms, p, r, h => by
    simp only [Tr.told, List.mem_cons] at h
    rcases h with rfl | h
    · exact ⟨fun x hx => Or.inl hx, by simp⟩
    · obtain ⟨h1, h2⟩ := tolds_path ms (n :: p) r h
      refine ⟨fun x hx => ?_, by simp only [List.length_cons, Tr.deep] at h2 ⊢; omega⟩
      rcases h1 x hx with h | h
      · rcases List.mem_cons.mp h with rfl | h
        · exact Or.inr (by simp [Tr.nms])
        · exact Or.inl h
      · exact Or.inr (by simp [Tr.nms, h])
theorem tolds_path : ∀ (ts : List Tr) (p : List Str) (r : Rw), r ∈ tolds ts p → (∀ x ∈ r.2.2, x ∈ p ∨ x ∈ nmss ts) ∧ r.2.2.length ≤ p.length + deeps ts
  | [], p, r, h => by simp [tolds] at h
  | t :: ts, p, r, h => by
    simp only [tolds, List.mem_append] at h
    rcases h with h | h
    · obtain ⟨h1, h2⟩ := told_path t p r h
      refine ⟨fun x hx => ?_, by simp only [deeps]; omega⟩
      rcases h1 x hx with h | h
      · exact Or.inl h
      · exact Or.inr (by simp [nmss, h])
    · obtain ⟨h1, h2⟩ := tolds_path ts p r h
      refine ⟨fun x hx => ?_, by simp only [deeps]; omega⟩
      rcases h1 x hx with h | h
      · exact Or.inl h
      · exact Or.inr (by simp [nmss, h])
end
theorem told_mem {t : Tr} {p : List Str} {r : Rw} (h : r ∈ t.told p) : r.1 ∈ t.nms := by
  rw [← told_nms t p]
  exact List.mem_map.mpr ⟨r, h, rfl⟩
/-- with all names unlike, a row is found by its name -/
theorem find_row {rs : List Rw} (h : (rs.map (·.1)).Nodup) {i : Nat} {r : Rw} (hi : rs[i]? = some r) : rs.find? (fun q => decide (q.1 = r.1)) = some r := by
  refine find_at (fun x hx => ?_) hi (decide_eq_true rfl)
  refine decide_eq_false fun e => ?_
  obtain ⟨j, hj⟩ := List.getElem?_of_mem hx
  have hji : j < i := by
    have := (List.getElem?_eq_some_iff.mp hj).1
    rw [List.length_take] at this
    omega
  have hj2 : rs[j]? = some x := by
    rw [List.getElem?_take_of_lt hji] at hj
    exact hj
  have h1 : (rs.map (·.1))[j]? = some r.1 := by rw [List.getElem?_map, hj2, ← e]; rfl
  have h2 : (rs.map (·.1))[i]? = some r.1 := by rw [List.getElem?_map, hi]; rfl
  have h3 := (List.getElem?_eq_some_iff.mp h1)
  have h4 := (List.getElem?_eq_some_iff.mp h2)
  obtain ⟨l1, g1⟩ := h3
  obtain ⟨l2, g2⟩ := h4
  unfold List.Nodup at h
  exact (List.pairwise_iff_getElem.mp h) j i l1 l2 hji (g1.trans g2.symm)
def rTup (K : PySem.W.Frag) : List V → Hp → VK → Prop := fun xs H Q => ∃ p ys, xs = [.ref p] ∧ ((SqL K H p ys ∧ ∀ l, H l = none → Q (.ref l) (upd H l (.tup ys))) ∨ (SqT K H p ys ∧ Q (.ref p) H))
theorem tupleK {X : Cx} {K : PySem.W.Frag} (h : X.K = K) : CallR X (.type "tuple") (rTup K) := by subst h; exact call_tuple_of
end NL

/-! data with dicts in them (what a dict holds is left aside), and what a plan is among them -/
namespace NL
open PySem L2 Evl
mutual
inductive Dx (K : PySem.W.Frag) (H : Hp) : V → PyData → Prop
  | non : Dx K H .non .none
  | bl (b : Bool) : Dx K H (.bl b) (.bool b)
  | int (i : Int) : Dx K H (.int i) (.int i)
  | str (x : Str) : Dx K H (.str x) (.str x)
  | lst {a : Addr} {xs : List V} {ds : List PyData} : SqL K H a xs → DxAll K H xs ds → Dx K H (.ref a) (.list ds)
  | tup {a : Addr} {xs : List V} {ds : List PyData} : SqT K H a xs → DxAll K H xs ds → Dx K H (.ref a) (.tuple ds)
  | dct {a : Addr} {kvs : List (Key × V)} {ks : List (PyData × PyData)} : H a = some (.dK kvs) → Dx K H (.ref a) (.dict ks)
inductive DxAll (K : PySem.W.Frag) (H : Hp) : List V → List PyData → Prop
  | nil : DxAll K H [] []
  | cons {v : V} {vs : List V} {d : PyData} {ds : List PyData} : Dx K H v d → DxAll K H vs ds → DxAll K H (v :: vs) (d :: ds)
end
mutual
theorem dx_of {K : PySem.W.Frag} {H H' : Hp} (el : ∀ a xs, SqL K H a xs → SqL K H' a xs) (et : ∀ a xs, SqT K H a xs → SqT K H' a xs) (ed : ∀ a kvs, H a = some (.dK kvs) → ∃ kvs', H' a = some (.dK kvs')) : ∀ (d : PyData) (v : V), Dx K H v d → Dx K H' v d
  | .none, _, h => by cases h; exact .non
  | .bool b, _, h => by cases h; exact .bl b
  | .int i, _, h => by cases h; exact .int i
  | .str x, _, h => by cases h; exact .str x
  | .list ds, _, h => by
    cases h with
    | lst hs ha => exact .lst (el _ _ hs) (dxa_of el et ed ds _ ha)
  | .tuple ds, _, h => by
    cases h with
    | tup hs ha => exact .tup (et _ _ hs) (dxa_of el et ed ds _ ha)
  | .dict kvs, _, h => by
    cases h with
    | dct hd =>
      obtain ⟨kvs', hd'⟩ := ed _ _ hd
      exact .dct hd'
theorem dxa_of {K : PySem.W.Frag} {H H' : Hp} (el : ∀ a xs, SqL K H a xs → SqL K H' a xs) (et : ∀ a xs, SqT K H a xs → SqT K H' a xs) (ed : ∀ a kvs, H a = some (.dK kvs) → ∃ kvs', H' a = some (.dK kvs')) : ∀ (ds : List PyData) (vs : List V), DxAll K H vs ds → DxAll K H' vs ds
  | [], _, h => by cases h; exact .nil
  | d :: ds, _, h => by
    cases h with
    | cons h1 h2 => exact .cons (dx_of el et ed d _ h1) (dxa_of el et ed ds _ h2)
end
theorem dx_mono {K : PySem.W.Frag} {H H' : Hp} {v : V} {d : PyData} (e : Ex H H') (h : Dx K H v d) : Dx K H' v d := dx_of (fun _ _ => ex_l e) (fun _ _ => ex_t e) (fun a kvs z => ⟨kvs, e _ _ z⟩) d v h
theorem dxa_mono {K : PySem.W.Frag} {H H' : Hp} {vs : List V} {ds : List PyData} (e : Ex H H') (h : DxAll K H vs ds) : DxAll K H' vs ds := dxa_of (fun _ _ => ex_l e) (fun _ _ => ex_t e) (fun a kvs z => ⟨kvs, e _ _ z⟩) ds vs h
mutual
theorem dx_dp {K : PySem.W.Frag} {H : Hp} : ∀ (d : PyData) (v : V), Dp K H v d → Dx K H v d
  | .none, _, h => by cases h; exact .non
  | .bool b, _, h => by cases h; exact .bl b
  | .int i, _, h => by cases h; exact .int i
  | .str x, _, h => by cases h; exact .str x
  | .list ds, _, h => by
    cases h with
    | lst hs ha => exact .lst hs (dxa_dp ds _ ha)
  | .tuple ds, _, h => by
    cases h with
    | tup hs ha => exact .tup hs (dxa_dp ds _ ha)
  | .dict kvs, _, h => by cases h
theorem dxa_dp {K : PySem.W.Frag} {H : Hp} : ∀ (ds : List PyData) (vs : List V), DpAll K H vs ds → DxAll K H vs ds
  | [], _, h => by cases h; exact .nil
  | d :: ds, _, h => by
    cases h with
    | cons h1 h2 => exact .cons (dx_dp d _ h1) (dxa_dp ds _ h2)
end
theorem dxa_len {K : PySem.W.Frag} {H : Hp} : ∀ {vs : List V} {ds : List PyData}, DxAll K H vs ds → vs.length = ds.length
  | _, _, .nil => rfl
  | _, _, .cons _ t => by rw [List.length_cons, List.length_cons, dxa_len t]
theorem dxa_get {K : PySem.W.Frag} {H : Hp} : ∀ {vs : List V} {ds : List PyData} {i : Nat} {v : V}, DxAll K H vs ds → vs[i]? = some v → ∃ d, ds[i]? = some d ∧ Dx K H v d
  | _, _, _, _, .nil, e => by simp at e
  | _, _, 0, _, .cons r _, e => by simp at e; subst e; exact ⟨_, rfl, r⟩
  | _, _, i + 1, v, .cons _ t, e => by
    obtain ⟨d, h1, h2⟩ := dxa_get (i := i) (v := v) t (by simpa using e)
    exact ⟨d, by simpa using h1, h2⟩
theorem dx_ty {K : PySem.W.Frag} {H : Hp} {v : V} {d : PyData} (h : Dx K H v d) : TyX K H v (.type (tyN d)) := by
  cases h with
  | non => exact .base .non
  | bl b => exact .base (.bl b)
  | int i => exact .base (.int i)
  | str x => exact .base (.str x)
  | lst hs _ =>
    rcases hs with (h | ⟨o, h⟩) | ⟨o, its, n, h, c, _⟩
    · exact .base (.lst h)
    · exact .base (.frz h)
    · exact .kList h c
  | tup hs _ =>
    rcases hs with (h | ⟨o, h⟩) | ⟨o, its, n, h, c, _⟩
    · exact .base (.tup h)
    · exact .fTuple h
    · exact .kTuple h c
  | dct h => exact .base (.dK h)
theorem ev_isX {K : PySem.W.Frag} {σ : L2.St} {H : Hp} {ta : TE} {x : V} {d : PyData} {T : String} {b : Bool} (ha : Ev ta σ H x) (hd : Dx K H x d) (hk : kitB (tyN d) T = some b) : Ev (tCB (rIsi K) (tCons ta (tCons (tC (.ty T)) tNil))) σ H (.bl b) := fun H1 e Q q =>
  ha H1 e _ fun H2 e2 => ⟨x, .ty T, _, _, b, rfl, .ty T, dx_ty (dx_mono (e.trans e2) hd), kit_ty hk, q H2 e2⟩
/-! ### names, plans -/
def nameB (s : Str) : Bool := decide (1 ≤ s.length) && decide (s.length ≤ 8) && s.cps.toList.all fun c => decide (c ∈ ("abcdefghijklmnopqrstuvwxyz" : Str).cps.toList)
def isNm : PyData → Bool
  | .str s => nameB s
  | _ => false
def fitN (d : PyData) (seen : List Str) : Option (List Str) := match d with
  | .str s => if nameB s = true ∧ s ∉ seen then some (seen ++ [s]) else none
  | _ => none
mutual
def fitM : PyData → List Str → Option (List Str)
  | .str s, seen => if nameB s = true ∧ s ∉ seen then some (seen ++ [s]) else none
  | .tuple [.str n, .int b, .tuple ms], seen => if 1 ≤ b ∧ ms ≠ [] ∧ nameB n = true ∧ n ∉ seen then fitMs ms (seen ++ [n]) else none
  | _, _ => none
def fitMs : List PyData → List Str → Option (List Str)
  | [], seen => some seen
  | d :: ds, seen => match fitM d seen with
    | none => none
    | some s => fitMs ds s
end
/-- as a group by itself -/
def fitG (d : PyData) (seen : List Str) : Option (List Str) := match d with
  | .str _ => none
  | d => fitM d seen
def planB (d : PyData) : Bool := (fitG d []).isSome
/-- what is a group by its form -/
def formB : PyData → Bool
  | .tuple [_, .int b, .tuple ms] => decide (1 ≤ b) && !ms.isEmpty
  | _ => false
mutual
def nodes : PyData → Nat
  | .tuple ds => nodess ds + 1
  | .list ds => nodess ds + 1
  | _ => 1
def nodess : List PyData → Nat
  | [] => 0
  | d :: ds => nodes d + nodess ds
end
/-- all but the dict at sd stays -/
def KD (sd : Addr) (H H' : Hp) : Prop := ∀ a o, a ≠ sd → H a = some o → H' a = some o
theorem KD.trans {sd : Addr} {H H1 H2 : Hp} (a : KD sd H H1) (b : KD sd H1 H2) : KD sd H H2 := fun x o n e => b x o n (a x o n e)
theorem KD.ex {sd : Addr} {H H1 : Hp} (a : Ex H H1) : KD sd H H1 := fun x o _ e => a x o e
abbrev ky (n : Str) : Key × V := (Sum.inr n, .bl true)
theorem kd_rd {sd : Addr} {H H' : Hp} {kvs : List (Key × V)} (h : H sd = some (.dK kvs)) (k : KD sd H H') {a : Addr} {u : HO} (hu : ∀ z, u ≠ .dK z) (r : Rd H a u) : Rd H' a u := by
  rcases r with r | ⟨o, r⟩
  · exact Or.inl (k _ _ (fun z => by subst z; rw [h] at r; cases r; exact hu _ rfl) r)
  · exact Or.inr ⟨o, k _ _ (fun z => by subst z; rw [h] at r; cases r) r⟩
theorem dx_kd {K : PySem.W.Frag} {sd : Addr} {H H' : Hp} {kvs kvs' : List (Key × V)} (h : H sd = some (.dK kvs)) (h' : H' sd = some (.dK kvs')) (k : KD sd H H') {v : V} {d : PyData} (x : Dx K H v d) : Dx K H' v d := by
  refine dx_of (fun a xs s => ?_) (fun a xs s => ?_) (fun a ks s => ?_) d v x
  · rcases s with s | s
    · exact Or.inl (kd_rd h k (fun z e => by cases e) s)
    · exact Or.inr s
  · rcases s with s | s
    · exact Or.inl (kd_rd h k (fun z e => by cases e) s)
    · exact Or.inr s
  · by_cases e : a = sd
    · subst e
      exact ⟨_, h'⟩
    · exact ⟨ks, k _ _ e s⟩
theorem st_kd {K : PySem.W.Frag} {sd : Addr} {H H' : Hp} {kvs : List (Key × V)} (h : H sd = some (.dK kvs)) (k : KD sd H H') {a : Addr} {xs : List V} (s : SqT K H a xs) : SqT K H' a xs := by
  rcases s with s | s
  · exact Or.inl (kd_rd h k (fun z e => by cases e) s)
  · exact Or.inr s
theorem val_ky {n : Str} : ∀ {ns : List Str}, (valV (ns.map ky) (Sum.inr n)).isSome = decide (n ∈ ns)
  | [] => by simp [valV]
  | m :: ns => by
    by_cases e : m = n
    · subst e
      rw [List.map_cons, valV_pos rfl]
      simp
    · rw [List.map_cons, valV_neg (fun z => e (Sum.inr.inj z)), val_ky]
      have : decide (n ∈ m :: ns) = decide (n ∈ ns) := decide_eq_decide.mpr ⟨fun h => by rcases List.mem_cons.mp h with h | h; exact absurd h.symm e; exact h, fun h => List.mem_cons_of_mem _ h⟩
      rw [this]
theorem put_ky {n : Str} {ns : List Str} (h : n ∉ ns) : putK (ns.map ky) (Sum.inr n) (.bl true) = (ns ++ [n]).map ky := by
  unfold putK
  rw [valV_any, val_ky, decide_eq_false h]
  simp
/-- a comprehension over a text's signs -/
theorem el_lcS {σ : L2.St} {H : Hp} {z : Str} {tl te : TE} {j : Nat} {vs : List Nat} (g : Nat → V) (src : Ev tl σ H (.str z)) (few : z.cps.size ≤ 40000) (clean : ∀ x, wipe ((wipe σ vs).set j (some x)) vs = wipe σ vs)
    (give : ∀ (i : Nat) (c : Nat) H1, Ex H H1 → z.cps[i]? = some c → Ev te ((wipe σ vs).set j (some (.str ⟨#[c]⟩))) H1 (g i)) : EvL (tLc (iStr tl) (gName j) tYes te vs) σ H ((List.range z.cps.size).map g) := by
  intro H0 e0 Q next
  refine src H0 e0 _ fun H1 e1 => ?_
  refine ⟨z, rfl, fun made fresh => ?_⟩
  refine lc_it (walk_str (z := z)) (Cw H1 (fun _ => true) g made) ⟨fresh, Ex.new fresh, upd_same⟩ (fun _ _ _ _ => trivial) ?turn ?done
  case turn =>
    intro i x H2 H3 lt inv y
    obtain ⟨rfl, c, hc, rfl⟩ := y
    exact ⟨clean _, cw_turn inv (by omega) et_yes (fun _ => give i c H1 (e0.trans e1) hc)⟩
  case done =>
    intro H2 inv
    have h2 := inv.2.2
    rw [given_all] at h2
    exact next made H2 (fresh_back e1 inv.1) (e1.trans inv.2.1) h2
/-- a <= b <= c -/
theorem ev_chain2 {σ : L2.St} {H : Hp} {ta tb tc : TE} {f g : Int → Int → Bool} {i j k : Int} (ha : Ev ta σ H (.int i)) (hb : Ev tb σ H (.int j)) (hc : Ev tc σ H (.int k)) : Ev (tChain (rI0 fun i j => .bl (f i j)) (rI0 fun i j => .bl (g i j)) ta tb tc) σ H (.bl (f i j && g j k)) := by
  intro H1 e Q q
  refine ha H1 e _ fun H2 e2 => hb H2 (e.trans e2) _ fun H3 e3 => ⟨i, j, rfl, rfl, f i j, rfl, ?_⟩
  cases hf : f i j with
  | true =>
    rw [if_pos rfl]
    refine hc H3 ((e.trans e2).trans e3) _ fun H4 e4 => ⟨j, k, rfl, rfl, ?_⟩
    have h := q H4 ((e2.trans e3).trans e4)
    rw [hf, Bool.true_and] at h
    exact h
  | false =>
    rw [if_neg (by decide)]
    have h := q H3 (e2.trans e3)
    rw [hf, Bool.false_and] at h
    exact h
mutual
def shorts : PyData → Prop
  | .str s => s.length ≤ 1000000
  | .tuple ds => shortss ds
  | .list ds => shortss ds
  | _ => True
def shortss : List PyData → Prop
  | [] => True
  | d :: ds => shorts d ∧ shortss ds
end
theorem shortss_mem : ∀ {ds : List PyData} {i : Nat} {d : PyData}, shortss ds → ds[i]? = some d → shorts d
  | [], _, _, _, h => by simp at h
  | x :: ds, 0, d, hs, h => by simp at h; subst h; simp only [shortss] at hs; exact hs.1
  | x :: ds, i + 1, d, hs, h => by simp only [shortss] at hs; exact shortss_mem (i := i) hs.2 (by simpa using h)
theorem nodess_take : ∀ {ds : List PyData} {i : Nat} {d : PyData}, ds[i]? = some d → nodess (ds.take (i + 1)) = nodess (ds.take i) + nodes d
  | [], _, _, h => by simp at h
  | x :: ds, 0, d, h => by simp at h; subst h; simp [nodess]
  | x :: ds, i + 1, d, h => by
    have := nodess_take (ds := ds) (i := i) (d := d) (by simpa using h)
    simp only [List.take_succ_cons, nodess]
    omega
theorem nodess_le : ∀ (ds : List PyData) (i : Nat), nodess (ds.take i) ≤ nodess ds
  | [], i => by simp [nodess]
  | x :: ds, 0 => by simp [nodess]
  | x :: ds, i + 1 => by
    have := nodess_le ds i
    simp only [List.take_succ_cons, nodess]
    omega
theorem depth_mem : ∀ {ds : List PyData} {i : Nat} {d : PyData}, ds[i]? = some d → d.depth ≤ PyData.depthAll ds
  | [], _, _, h => by simp at h
  | x :: ds, 0, d, h => by simp at h; subst h; simp only [PyData.depthAll]; exact Nat.le_max_left _ _
  | x :: ds, i + 1, d, h => by
    have := depth_mem (ds := ds) (i := i) (d := d) (by simpa using h)
    simp only [PyData.depthAll]
    exact Nat.le_trans this (Nat.le_max_right _ _)
theorem fitMs_take : ∀ {ds : List PyData} {i : Nat} {d : PyData} {s r : List Str}, ds[i]? = some d → fitMs (ds.take i) s = some r → fitMs (ds.take (i + 1)) s = fitM d r
  | [], _, _, _, _, h, _ => by simp at h
  | x :: ds, 0, d, s, r, h, hf => by
    simp at h
    subst h
    simp only [List.take_zero, fitMs, Option.some.injEq] at hf
    subst hf
    simp only [List.take_succ_cons, List.take_zero, fitMs]
    cases fitM x s <;> rfl
  | x :: ds, i + 1, d, s, r, h, hf => by
    simp only [List.take_succ_cons, fitMs] at hf ⊢
    cases hx : fitM x s with
    | none => rw [hx] at hf; cases hf
    | some q =>
      rw [hx] at hf
      exact fitMs_take (ds := ds) (i := i) (by simpa using h) hf
theorem fitMs_stop : ∀ {ds : List PyData} {i : Nat} {s : List Str}, fitMs (ds.take i) s = none → fitMs ds s = none
  | [], i, s, h => by simpa using h
  | x :: ds, 0, s, h => by simp [fitMs] at h
  | x :: ds, i + 1, s, h => by
    simp only [List.take_succ_cons, fitMs] at h ⊢
    cases hx : fitM x s with
    | none => rfl
    | some q =>
      rw [hx] at h
      exact fitMs_stop (ds := ds) (i := i) h
theorem fit_form {d : PyData} {s : List Str} (h : formB d = false) : fitG d s = none := by
  unfold fitG
  split
  · rfl
  · unfold fitM
    split
    · rename_i hn; exact absurd rfl (hn _)
    · rename_i n b ms seen
      simp only [formB, Bool.and_eq_false_iff] at h
      rw [if_neg]
      intro ⟨h1, h2, _⟩
      rcases h with h | h
      · simp at h; omega
      · simp at h; exact h2 h
    · rfl
/-- how a look with names seen ends -/
def Post (sd : Addr) (ns : List Str) (N : Nat) (r : Option (List Str)) (H : Hp) (Q : VK) : Prop := ∀ (b : Bool) (ms : List Str) (H' : Hp), KD sd H H' → H' sd = some (.dK (ms.map ky)) → (b = true → r = some ms ∧ ms.length ≤ ns.length + N) → (b = false → r = none) → Q (.bl b) H'
theorem q_notB {te : TE} {tu tz : TS} {D : Ends} {σ : L2.St} {H : Hp} (h : te σ H fun x H1 => ∃ c, x = .bl c ∧ if (!c) = true then tu { D with nx := tz D } σ H1 else tz D σ H1) : tSeq (tIfS (tNot (tB te)) tu tNext) tz D σ H := h
theorem s_notB {te : TE} {tu : TS} {D : Ends} {σ : L2.St} {H : Hp} (h : te σ H fun x H1 => ∃ c, x = .bl c ∧ if (!c) = true then tu D σ H1 else D.nx σ H1) : tIfS (tNot (tB te)) tu tNext D σ H := h
theorem dxa3 {K : PySem.W.Frag} {H : Hp} {xs : List V} {d f g : PyData} (h : DxAll K H xs [d, f, g]) : ∃ x y z, xs = [x, y, z] ∧ Dx K H x d ∧ Dx K H y f ∧ Dx K H z g := by
  cases h with
  | cons h1 t =>
    cases t with
    | cons h2 t =>
      cases t with
      | cons h3 t =>
        cases t
        exact ⟨_, _, _, rfl, h1, h2, h3⟩
end NL

/-! all names of a plan, as a datum -/
namespace NL
open PySem L2 Evl
mutual
def allM : PyData → Option (List Str)
  | .str s => if nameB s = true then some [s] else none
  | .tuple [.str n, .int b, .tuple ms] => if 1 ≤ b ∧ ms ≠ [] ∧ nameB n = true then (match allMs ms with | none => none | some r => some (n :: r)) else none
  | _ => none
def allMs : List PyData → Option (List Str)
  | [] => some []
  | d :: ds => match allM d with
    | none => none
    | some a => match allMs ds with
      | none => none
      | some b => some (a ++ b)
end
def allG (d : PyData) : Option (List Str) := match d with
  | .str _ => none
  | d => allM d
def within (o : Option (List Str)) (seen : List Str) : Option (List Str) := match o with
  | none => none
  | some ns => if ns.Nodup ∧ ∀ n ∈ ns, n ∉ seen then some (seen ++ ns) else none
mutual
theorem fit_all (d : PyData) (seen : List Str) : fitM d seen = within (allM d) seen := by
  unfold fitM allM
  split
  · rename_i s
    simp only
    by_cases h1 : nameB s = true
    · by_cases h2 : s ∈ seen
      · rw [if_neg (fun h => h.2 h2), if_pos h1]
        simp only [within]
        rw [if_neg (fun h => h.2 s (List.mem_singleton.mpr rfl) h2)]
      · rw [if_pos ⟨h1, h2⟩, if_pos h1]
        simp only [within]
        rw [if_pos ⟨by simp, fun n hn => by rw [List.mem_singleton.mp hn]; exact h2⟩]
    · rw [if_neg (fun h => h1 h.1), if_neg h1]
      rfl
  · rename_i n b ms
    simp only
    by_cases h1 : 1 ≤ b ∧ ms ≠ [] ∧ nameB n = true
    · rw [if_pos h1]
      by_cases h2 : n ∈ seen
      · rw [if_neg (fun h => h.2.2.2 h2)]
        cases hm : allMs ms with
        | none => rfl
        | some r =>
          simp only [within]
          rw [if_neg (fun h => h.2 n (List.mem_cons_self ..) h2)]
      · rw [if_pos ⟨h1.1, h1.2.1, h1.2.2, h2⟩, fits_all ms (seen ++ [n])]
        cases hm : allMs ms with
        | none => rfl
        | some r =>
          simp only [within]
          by_cases h3 : r.Nodup ∧ ∀ x ∈ r, x ∉ seen ++ [n]
          · rw [if_pos h3, if_pos]
            · simp
            · refine ⟨List.nodup_cons.mpr ⟨fun z => h3.2 n z (by simp), h3.1⟩, fun x hx => ?_⟩
              rcases List.mem_cons.mp hx with rfl | hx
              · exact h2
              · exact fun z => h3.2 x hx (List.mem_append_left _ z)
          · rw [if_neg h3, if_neg]
            intro h4
            have h5 := List.nodup_cons.mp h4.1
            refine h3 ⟨h5.2, fun x hx z => ?_⟩
            rcases List.mem_append.mp z with z | z
            · exact h4.2 x (List.mem_cons_of_mem _ hx) z
            · rw [List.mem_singleton.mp z] at hx
              exact h5.1 hx
    · rw [if_neg (fun h => h1 ⟨h.1, h.2.1, h.2.2.1⟩), if_neg h1]
      rfl
  · rename_i h1 h2
    split
    · exact absurd rfl (h1 _)
    · exact absurd rfl (h2 _ _ _)
    · rfl
termination_by sizeOf d
theorem fits_all (ds : List PyData) (seen : List Str) : fitMs ds seen = within (allMs ds) seen := by
  cases ds with
  | nil =>
    simp only [fitMs, allMs, within]
    rw [if_pos ⟨by simp, fun n hn => by cases hn⟩]
    simp
  | cons d ds =>
    simp only [fitMs, allMs]
    rw [fit_all d seen]
    cases ha : allM d with
    | none => rfl
    | some a =>
      simp only [within]
      by_cases h1 : a.Nodup ∧ ∀ n ∈ a, n ∉ seen
      · rw [if_pos h1]
        simp only
        rw [fits_all ds (seen ++ a)]
        cases hb : allMs ds with
        | none => rfl
        | some b =>
          simp only [within]
          by_cases h2 : b.Nodup ∧ ∀ n ∈ b, n ∉ seen ++ a
          · rw [if_pos h2, if_pos]
            · simp
            · refine ⟨List.nodup_append.mpr ⟨h1.1, h2.1, fun x hx y hy e => ?_⟩, fun x hx => ?_⟩
              · subst e
                exact h2.2 x hy (List.mem_append_right _ hx)
              · rcases List.mem_append.mp hx with hx | hx
                · exact h1.2 x hx
                · exact fun z => h2.2 x hx (List.mem_append_left _ z)
          · rw [if_neg h2, if_neg]
            intro h3
            have h4 := List.nodup_append.mp h3.1
            refine h2 ⟨h4.2.1, fun x hx z => ?_⟩
            rcases List.mem_append.mp z with z | z
            · exact h3.2 x (List.mem_append_right _ hx) z
            · exact h4.2.2 x z x hx rfl
      · rw [if_neg h1]
        simp only
        cases hb : allMs ds with
        | none => rfl
        | some b =>
          simp only
          rw [if_neg]
          intro h3
          exact h1 ⟨(List.nodup_append.mp h3.1).1, fun x hx => h3.2 x (List.mem_append_left _ hx)⟩
termination_by sizeOf ds
end
def uniqueB (o : Option (List Str)) : Bool := match o with
  | none => false
  | some ns => decide ns.Nodup
theorem plan_unique (d : PyData) : planB d = uniqueB (allG d) := by
  have main : ∀ d, (fitM d []).isSome = uniqueB (allM d) := fun d => by
    rw [fit_all]
    cases allM d with
    | none => rfl
    | some ns =>
      simp only [within, uniqueB]
      by_cases h : ns.Nodup
      · rw [if_pos ⟨h, fun n _ => by simp⟩, decide_eq_true h]
        rfl
      · rw [if_neg (fun z => h z.1), decide_eq_false h]
        rfl
  cases d with
  | str s => rfl
  | _ => exact main _
mutual
theorem all_len (d : PyData) (ns : List Str) (h : allM d = some ns) : ns.length ≤ nodes d := by
  unfold allM at h
  split at h
  · split at h
    · cases h
      simp [nodes]
    · cases h
  · rename_i n b ms
    split at h
    · cases hm : allMs ms with
      | none => rw [hm] at h; cases h
      | some r =>
        rw [hm] at h
        cases h
        have := alls_len ms r hm
        simp only [nodes, nodess, List.length_cons]
        omega
    · cases h
  · cases h
termination_by sizeOf d
theorem alls_len (ds : List PyData) (ns : List Str) (h : allMs ds = some ns) : ns.length ≤ nodess ds := by
  cases ds with
  | nil => simp only [allMs] at h; cases h; simp
  | cons d ds =>
    simp only [allMs] at h
    cases ha : allM d with
    | none => rw [ha] at h; cases h
    | some a =>
      rw [ha] at h
      simp only at h
      cases hb : allMs ds with
      | none => rw [hb] at h; cases h
      | some b =>
        rw [hb] at h
        cases h
        have := all_len d a ha
        have := alls_len ds b hb
        simp only [nodess, List.length_append]
        omega
termination_by sizeOf ds
end
theorem alls_take : ∀ {ds : List PyData} {i : Nat} {d : PyData} {r : List Str}, ds[i]? = some d → allMs (ds.take i) = some r → allMs (ds.take (i + 1)) = match allM d with | none => none | some a => some (r ++ a)
  | [], _, _, _, h, _ => by simp at h
  | x :: ds, 0, d, r, h, hr => by
    simp at h
    subst h
    simp only [List.take_zero, allMs, Option.some.injEq] at hr
    subst hr
    simp only [List.take_succ_cons, List.take_zero, allMs]
    cases allM x <;> simp
  | x :: ds, i + 1, d, r, h, hr => by
    simp only [List.take_succ_cons, allMs] at hr ⊢
    cases hx : allM x with
    | none => rw [hx] at hr; cases hr
    | some a =>
      rw [hx] at hr
      simp only at hr ⊢
      cases hy : allMs (ds.take i) with
      | none => rw [hy] at hr; cases hr
      | some b =>
        rw [hy] at hr
        cases hr
        rw [alls_take (ds := ds) (i := i) (by simpa using h) hy]
        cases allM d <;> simp
theorem alls_stop : ∀ {ds : List PyData} {i : Nat}, allMs (ds.take i) = none → allMs ds = none
  | [], i, h => by simpa using h
  | x :: ds, 0, h => by simp [allMs] at h
  | x :: ds, i + 1, h => by
    simp only [List.take_succ_cons, allMs] at h ⊢
    cases hx : allM x with
    | none => rfl
    | some a =>
      rw [hx] at h
      simp only at h ⊢
      cases hy : allMs (ds.take i) with
      | none => rw [alls_stop hy]
      | some b => rw [hy] at h; cases h
theorem all_not {d : PyData} (h : isNm d = false) : allM d = allG d := by
  cases d with
  | str s =>
    simp only [isNm] at h
    unfold allM
    simp [allG, h]
  | _ => rfl
end NL

/-! a list that is extended by a tuple, a list as a test; the names of a plan from a pile of what waits -/
namespace NL
open PySem L2 Evl
theorem list_extend_tup (l : Addr) (items : Array Value) (n : Nat) (b : Addr) (o : Obj) (items2 : Array Value) (n2 : Nat) (hc : o.cls = .type "tuple") (hd : o.data = .seq items2 n2)
    (h0 : ¬(!items.isEmpty && Builtin.List.listTooLong (items.size + items2.size)) = true) (h1 : items.size ≤ sizeLine) (h2 : items.size + items2.size ≤ sizeLine + 1) :
    Meets (Builtin.«list.extend» ⟨[.ref l, .ref b], []⟩) (fun _ R s => s.heap.get? l = some ⟨.type "list", none, .seq items n, #[]⟩ ∧ s.heap.get? b = some o ∧ R (.ok (.ret Value.none)) { s with heap := s.heap.update l (Obj.mapSeq fun x => x ++ items2), toks := s.toks }) := by
  obtain ⟨c, dc, da, sl⟩ := o
  cases hc
  cases hd
  refine .of_wp fun prog w A R s h => ?_
  obtain ⟨hp, g, d, tk, os⟩ := s
  obtain ⟨hl, hb, h⟩ := h
  have f1 := AutoSeq1.idx_int
  have f2 := AutoSeq1.sub_tuple_tuple
  have f3 := AutoSeq1.sub_list_list
  have f4 := AutoSeq1.sub_tuple_list
  have f5 := AutoSeq1.sub_list_tuple
  have hz' : (items ++ items2).size ≤ sizeLine + 1 := by rw [Array.size_append]; exact h2
  wp_walk using (wpAny_updateSeq hl rfl (hz := h1) (_hz' := hz')), AutoSeq1.wpAny_loadPart' hl, AutoSeq1.wpAny_loadPart' hb
  exact ⟨_, rfl, h⟩
def rExtT (K : PySem.W.Frag) : V → List V → Hp → VK → Prop := fun x vs H Q => ∃ l b xs zs, x = .ref l ∧ vs = [.ref b] ∧ H l = some (.lst xs) ∧ SqT K H b zs ∧ xs.length + zs.length ≤ sizeLine ∧ Q .non (upd H l (.lst (xs ++ zs)))
theorem mt_extendT {X : Cx} {K : PySem.W.Frag} (hK : X.K = K) : MtM X "list.extend" (rExtT K) := by
  subst hK
  intro pins s σ H x vs v us Q I rx rv h
  obtain ⟨l, b, xs, zs, rfl, rfl, hH, hB, hz, q⟩ := h
  cases rx
  obtain ⟨u, rfl, ru⟩ := rv.one
  cases ru
  obtain ⟨z, its, n, r, hl, e⟩ := I.lstM hH
  obtain ⟨its2, r2, ⟨o, ho, hc, n2, hd⟩, hl2⟩ := I.tuple hB
  have q1 := r.length
  have q2 := r2.length
  have hsz : its.toArray.size + its2.toArray.size ≤ sizeLine := by rw [List.size_toArray, List.size_toArray]; omega
  have hlong : ¬ (!its.toArray.isEmpty && Builtin.List.listTooLong (its.toArray.size + its2.toArray.size)) = true := by
    rw [notLongL hsz, Bool.and_false]
    exact Bool.false_ne_true
  refine call_meets F.slot_list_extend ⟨_, e, rfl⟩ F.entry_list_extend (F.args_list_extend_2 _ _)
    (list_extend_tup l its.toArray n b o its2.toArray n2 hc hd hlong (by rw [List.size_toArray]; omega) (by omega)) ⟨e, ho, ?_⟩
  refine ⟨.non, _, I.lset (its' := its ++ its2) hH e (by simp) (r.append r2) ?_, rfl, q⟩
  rw [List.length_append]
  omega
def tTru (K : PySem.W.Frag) (te : TE) : TT := fun σ H Q => te σ H fun x H' => ∃ k, TruV K x H' k ∧ Q k H'
theorem truK {X : Cx} {K : PySem.W.Frag} {a : Expr} {ta : TE} (hK : X.K = K) (ha : PE X a ta) (he : ∀ whole, isTrue a X.env whole = (do let v ← whole; standAt a.pos; holding [v] (truthy v))) : PT X a (tTru K ta) := by
  subst hK
  exact pt_truth ha he
theorem et_truL {K : PySem.W.Frag} {te : TE} {σ : L2.St} {H : Hp} {l : Addr} {xs : List V} (h : Ev te σ H (.ref l)) (hl : H l = some (.lst xs)) : EvT (tTru K te) σ H (!xs.isEmpty) := fun H1 e Q q =>
  h H1 e _ fun H2 e2 => ⟨!xs.isEmpty, Or.inl ⟨xs, sq_of ((e.trans e2) _ _ hl), rfl⟩, q H2 e2⟩
/-! ### what waits, the last one first -/
/-- a member's own name, and what is in it -/
def hdM : PyData → Option (Str × List PyData)
  | .str s => some (s, [])
  | .tuple [.str n, .int b, .tuple ms] => if 1 ≤ b ∧ ms ≠ [] then some (n, ms) else none
  | _ => none
def goesB (d : PyData) (ns : List Str) : Bool := match hdM d with
  | none => false
  | some (n, _) => nameB n && decide (n ∉ ns)
theorem allM_other {d : PyData} (h1 : ∀ s, d ≠ .str s) (h2 : ∀ n b ms, d ≠ .tuple [.str n, .int b, .tuple ms]) : allM d = none := by
  unfold allM
  split
  · exact (h1 _ rfl).elim
  · exact (h2 _ _ _ rfl).elim
  · rfl
theorem hdM_other {d : PyData} (h1 : ∀ s, d ≠ .str s) (h2 : ∀ n b ms, d ≠ .tuple [.str n, .int b, .tuple ms]) : hdM d = none := by
  unfold hdM
  split
  · exact (h1 _ rfl).elim
  · exact (h2 _ _ _ rfl).elim
  · rfl
theorem allM_grp (n : Str) (b : Int) (ms : List PyData) : allM (.tuple [.str n, .int b, .tuple ms]) = if 1 ≤ b ∧ ms ≠ [] ∧ nameB n = true then (match allMs ms with | none => none | some r => some (n :: r)) else none := by
  rw [allM]
  all_goals (cases allMs ms <;> rfl)
theorem hdM_grp (n : Str) (b : Int) (ms : List PyData) : hdM (.tuple [.str n, .int b, .tuple ms]) = if 1 ≤ b ∧ ms ≠ [] then some (n, ms) else none := by
  rw [hdM]
def allH : Option (Str × List PyData) → Option (List Str)
  | none => none
  | some (n, ms) => if nameB n = true then (match allMs ms with | none => none | some r => some (n :: r)) else none
theorem allM_hd (d : PyData) : allM d = allH (hdM d) := by
  by_cases c1 : ∃ s, d = .str s
  · obtain ⟨s, rfl⟩ := c1
    rw [allM, hdM, allH, allMs]
  by_cases c2 : ∃ n b ms, d = .tuple [.str n, .int b, .tuple ms]
  · obtain ⟨n, b, ms, rfl⟩ := c2
    rw [allM_grp, hdM_grp]
    by_cases h1 : 1 ≤ b ∧ ms ≠ []
    · rw [if_pos h1, allH]
      by_cases h2 : nameB n = true
      · rw [if_pos ⟨h1.1, h1.2, h2⟩, if_pos h2]
      · rw [if_neg (fun h => h2 h.2.2), if_neg h2]
    · rw [if_neg (fun h => h1 ⟨h.1, h.2.1⟩), if_neg h1, allH]
  rw [allM_other (fun s z => c1 ⟨s, z⟩) (fun n b ms z => c2 ⟨n, b, ms, z⟩), hdM_other (fun s z => c1 ⟨s, z⟩) (fun n b ms z => c2 ⟨n, b, ms, z⟩), allH]
theorem allMs_app : ∀ (a b : List PyData), allMs (a ++ b) = match allMs a with
    | none => none
    | some x => match allMs b with
      | none => none
      | some y => some (x ++ y)
  | [], b => by
    simp only [List.nil_append, allMs]
    cases allMs b <;> rfl
  | d :: a, b => by
    simp only [List.cons_append, allMs]
    rw [allMs_app a b]
    cases allM d with
    | none => rfl
    | some x =>
      cases allMs a with
      | none => rfl
      | some y =>
        cases allMs b with
        | none => rfl
        | some z => simp
def pileB (ds : List PyData) (ns : List Str) : Bool := (within (allMs ds) ns).isSome
theorem pile_nil (ns : List Str) : pileB [] ns = true := by
  simp [pileB, allMs, within]
theorem within_some {o : Option (List Str)} {ns : List Str} : (within o ns).isSome = true ↔ ∃ l, o = some l ∧ l.Nodup ∧ ∀ n ∈ l, n ∉ ns := by
  cases o with
  | none => simp [within]
  | some l =>
    simp only [within]
    by_cases h : l.Nodup ∧ ∀ n ∈ l, n ∉ ns
    · rw [if_pos h]
      exact ⟨fun _ => ⟨l, rfl, h⟩, fun _ => rfl⟩
    · rw [if_neg h]
      exact ⟨fun z => (Bool.false_ne_true z).elim, fun ⟨l', e, h'⟩ => by cases e; exact (h h').elim⟩
theorem pile_stop {a : List PyData} {d : PyData} {ns : List Str} (h : goesB d ns = false) : pileB (a ++ [d]) ns = false := by
  rw [← Bool.not_eq_true]
  intro hp
  obtain ⟨l, e, nd, hn⟩ := within_some.mp hp
  rw [allMs_app] at e
  simp only [allMs] at e
  rw [allM_hd d] at e
  unfold goesB at h
  cases hd : hdM d with
  | none =>
    rw [hd, allH] at e
    cases hx : allMs a with
    | none => rw [hx] at e; cases e
    | some x => rw [hx] at e; cases e
  | some r =>
    obtain ⟨n, ms⟩ := r
    rw [hd] at e h
    rw [allH] at e
    simp only at h
    cases hx : allMs a with
    | none => rw [hx] at e; cases e
    | some x =>
      rw [hx] at e
      by_cases h1 : nameB n = true
      · rw [if_pos h1] at e
        cases hy : allMs ms with
        | none => rw [hy] at e; cases e
        | some y =>
          rw [hy] at e
          simp only [List.append_nil, Option.some.injEq] at e
          subst e
          rw [h1, Bool.true_and] at h
          exact hn n (by simp) (by simpa using h)
      · rw [if_neg h1] at e
        cases e
theorem pile_step {a ms : List PyData} {d : PyData} {n : Str} {ns : List Str} (hd : hdM d = some (n, ms)) (h1 : nameB n = true) (h2 : n ∉ ns) : pileB (a ++ [d]) ns = pileB (a ++ ms) (ns ++ [n]) := by
  have e1 : allMs [d] = match allMs ms with | none => none | some r => some (n :: r) := by
    simp only [allMs]
    rw [allM_hd d, hd, allH, if_pos h1]
    cases allMs ms with
    | none => rfl
    | some r => simp
  have hm : ∀ (x y : List Str), ((x ++ n :: y).Nodup ∧ ∀ m ∈ x ++ n :: y, m ∉ ns) ↔ ((x ++ y).Nodup ∧ ∀ m ∈ x ++ y, m ∉ ns ++ [n]) := by
    intro x y
    have hp : (x ++ n :: y).Perm (n :: (x ++ y)) := List.perm_middle
    rw [hp.nodup_iff, List.nodup_cons]
    constructor
    · rintro ⟨⟨a1, a2⟩, a3⟩
      refine ⟨a2, fun m hm => ?_⟩
      have := a3 m (hp.mem_iff.mpr (List.mem_cons_of_mem _ hm))
      intro z
      rcases List.mem_append.mp z with z | z
      · exact this z
      · rw [List.mem_singleton.mp z] at hm
        exact a1 hm
    · rintro ⟨a2, a3⟩
      refine ⟨⟨fun z => a3 n z (by simp), a2⟩, fun m hm => ?_⟩
      rcases List.mem_cons.mp (hp.mem_iff.mp hm) with z | z
      · rw [z]; exact h2
      · exact fun w => a3 m z (List.mem_append_left _ w)
  rw [Bool.eq_iff_iff]
  unfold pileB
  rw [within_some, within_some, allMs_app, allMs_app, e1]
  cases allMs a with
  | none => simp
  | some x =>
    cases allMs ms with
    | none => simp
    | some y =>
      simp only [Option.some.injEq]
      constructor
      · rintro ⟨l, rfl, h⟩
        exact ⟨_, rfl, (hm x y).mp h⟩
      · rintro ⟨l, rfl, h⟩
        exact ⟨_, rfl, (hm x y).mpr h⟩
theorem pile_plan {d : PyData} (h : ∀ s, d ≠ .str s) : planB d = pileB [d] [] := by
  unfold planB pileB
  have e : fitG d [] = fitM d [] := by
    cases d with
    | str s => exact (h s rfl).elim
    | _ => rfl
  rw [e, fit_all]
  simp only [allMs]
  cases allM d with
  | none => rfl
  | some l => simp
theorem nodess_app : ∀ (a b : List PyData), nodess (a ++ b) = nodess a + nodess b
  | [], b => by simp [nodess]
  | x :: a, b => by simp only [List.cons_append, nodess, nodess_app a b]; omega
theorem hdM_nodes {d : PyData} {n : Str} {ms : List PyData} (h : hdM d = some (n, ms)) : nodess ms + 1 ≤ nodes d := by
  unfold hdM at h
  split at h
  · cases h
    simp [nodess, nodes]
  · split at h
    · cases h
      simp only [nodes, nodess]
      omega
    · cases h
  · cases h
theorem hdM_shorts {d : PyData} {n : Str} {ms : List PyData} (h : hdM d = some (n, ms)) (s : shorts d) : shortss ms := by
  unfold hdM at h
  split at h
  · cases h
    trivial
  · split at h
    · cases h
      simp only [shorts, shortss] at s
      exact s.2.2.1
    · cases h
  · cases h
theorem shortss_app : ∀ {a b : List PyData}, shortss (a ++ b) ↔ shortss a ∧ shortss b
  | [], b => by simp [shortss]
  | x :: a, b => by simp only [List.cons_append, shortss, shortss_app (a := a), and_assoc]
theorem nodes_pos (d : PyData) : 1 ≤ nodes d := by cases d <;> simp [nodes]
theorem len_nodess : ∀ (ds : List PyData), ds.length ≤ nodess ds
  | [] => Nat.zero_le _
  | d :: ds => by
    have := nodes_pos d
    have := len_nodess ds
    simp only [List.length_cons, nodess]
    omega
theorem q_whenM {t : TT} {tu tz : TS} {D : Ends} {σ : L2.St} {H : Hp} {b : Bool} (M : L2.St → Hp → Prop) (h : EvT t σ H b) (k : ∀ σ' H', M σ' H' → tz D σ' H')
    (h1 : ∀ R : L2.St → Hp → Prop, (∀ σ' H', M σ' H' → R σ' H') → b = true → ∀ H1, Ex H H1 → tu { D with nx := R } σ H1) (h2 : b = false → ∀ H1, Ex H H1 → M σ H1) : tSeq (tIfS t tu tNext) tz D σ H :=
  q_when h (h1 (tz D) k) fun hb H1 e => k σ H1 (h2 hb H1 e)
theorem s_dropP {te : TE} {D : Ends} {σ : L2.St} {H : Hp} (h : te σ H fun v H1 => D.nx σ H1) : tDrop te D σ H := h
theorem dxa_snoc {K : PySem.W.Frag} {H : Hp} : ∀ {vs : List V} {ds : List PyData}, DxAll K H vs ds → ds ≠ [] → ∃ us x es d, vs = us ++ [x] ∧ ds = es ++ [d] ∧ DxAll K H us es ∧ Dx K H x d
  | _, _, .nil, h => (h rfl).elim
  | _, _, .cons (v := v) (vs := []) (d := d) (ds := ds) h1 h2, _ => by
    cases h2
    exact ⟨[], v, [], d, rfl, rfl, .nil, h1⟩
  | _, _, .cons (v := v) (vs := w :: vs) (d := d) (ds := ds) h1 h2, _ => by
    have hne : ds ≠ [] := by
      cases h2
      exact List.cons_ne_nil _ _
    obtain ⟨us, x, es, e, a1, a2, a3, a4⟩ := dxa_snoc h2 hne
    exact ⟨v :: us, x, d :: es, e, by rw [a1]; rfl, by rw [a2]; rfl, .cons h1 a3, a4⟩
theorem dxa_app {K : PySem.W.Frag} {H : Hp} {ws : List V} {es : List PyData} (h2 : DxAll K H ws es) : ∀ {vs : List V} {ds : List PyData}, DxAll K H vs ds → DxAll K H (vs ++ ws) (ds ++ es)
  | _, _, .nil => h2
  | _, _, .cons a b => .cons a (dxa_app h2 b)
end NL

/-! a comprehension with two for: what is in tuples of a tuple, one behind the other -/
namespace NL
open PySem L2 Evl
theorem piTK {X : Cx} {K : PySem.W.Frag} {tg e : Expr} {tl : TE} (hK : X.K = K) (he : PE X e tl) : PI X tg e (iTup K tl) := by
  subst hK
  exact pi_tup he
theorem flat_take {yss : List (List V)} {i : Nat} {ys : List V} (h : yss[i]? = some ys) : (yss.take (i + 1)).flatten = (yss.take i).flatten ++ ys := by
  obtain ⟨hi, rfl⟩ := List.getElem?_eq_some_iff.mp h
  rw [List.take_succ_eq_append_getElem hi, List.flatten_append]
  simp
theorem flat_le {yss : List (List V)} {i j : Nat} {ys : List V} (h : yss[i]? = some ys) (hj : j ≤ ys.length) : ((yss.take i).flatten ++ ys.take j).length ≤ yss.flatten.length := by
  have e : yss.flatten = (yss.take (i + 1)).flatten ++ (yss.drop (i + 1)).flatten := by
    rw [← List.flatten_append, List.take_append_drop]
  rw [e, flat_take h]
  simp only [List.length_append, List.length_take]
  omega
theorem el_lc2T {K : PySem.W.Frag} {σ : L2.St} {H : Hp} {a : Addr} {xs : List V} {tl : TE} {j j1 : Nat} {vs vs1 : List Nat} (yss : List (List V)) (src : Ev tl σ H (.ref a)) (held : SqT K H a xs) (inner : ∀ (i : Nat) (x : V), xs[i]? = some x → ∃ b ys, x = V.ref b ∧ yss[i]? = some ys ∧ SqT K H b ys) (hlen : yss.length = xs.length) (few : yss.flatten.length ≤ 40000)
    (c1 : ∀ x, wipe ((wipe σ vs).set j (some x)) vs = wipe σ vs) (h1 : ∀ x, ((wipe σ vs).set j (some x))[j]? = some (some x))
    (c2 : ∀ x y, wipe ((wipe ((wipe σ vs).set j (some x)) vs1).set j1 (some y)) vs1 = wipe ((wipe σ vs).set j (some x)) vs1) (h2 : ∀ x y, ((wipe ((wipe σ vs).set j (some x)) vs1).set j1 (some y))[j1]? = some (some y)) :
    EvL (tLc2 (iTup K tl) (gName j) tYes (iTup K (tVar j)) (gName j1) tYes (tVar j1) vs vs1) σ H yss.flatten := by
  intro H0 e0 Q next
  refine src H0 e0 _ fun H1 e1 => ?_
  have e01 : Ex H H1 := e0.trans e1
  refine ⟨a, rfl, ⟨xs, ex_t e01 held⟩, fun D hD => ?_⟩
  refine ⟨fun i m H' => m = xs.length - i ∧ i ≤ xs.length ∧ Ex H1 H' ∧ H' D = some (.lst (yss.take i).flatten), ⟨xs.length, by simp, Nat.zero_le _, Ex.new hD, by rw [upd_same]; rfl⟩, ?_⟩
  rintro i m H2 ⟨rfl, hi, e2, hD2⟩
  have q2 : SqT K H2 a xs := ex_t (e01.trans e2) held
  by_cases hlt : i < xs.length
  · refine .inr ⟨⟨xs, xs[i], q2, by simp [hlt]⟩, fun H' => Ex H1 H' ∧ H' D = some (.lst (yss.take (i + 1)).flatten), fun H' p' => ⟨xs.length - (i + 1), by omega, rfl, hlt, p'.1, p'.2⟩, fun x H3 y => ?_⟩
    obtain ⟨rfl, y⟩ := y
    have hx := y xs q2
    obtain ⟨b, ys, rfl, hys, hb⟩ := inner i x hx
    refine ⟨c1 _, ?_⟩
    refine ⟨.ref b, h1 _, b, rfl, ⟨_, ex_t (e01.trans e2) hb⟩, ?_⟩
    refine ⟨fun j' k H' => k = ys.length - j' ∧ j' ≤ ys.length ∧ Ex H1 H' ∧ H' D = some (.lst ((yss.take i).flatten ++ ys.take j')), ⟨_, rfl, Nat.zero_le _, e2, by rw [hD2]; simp⟩, ?_⟩
    rintro j' k H4 ⟨rfl, hj', e4, hD4⟩
    have q4 : SqT K H4 b ys := ex_t (e01.trans e4) hb
    by_cases hlt2 : j' < ys.length
    · refine .inr ⟨⟨_, ys[j'], q4, by simp [hlt2]⟩, fun H' => Ex H1 H' ∧ H' D = some (.lst ((yss.take i).flatten ++ ys.take (j' + 1))), fun H' p' => ⟨ys.length - (j' + 1), by omega, rfl, hlt2, p'.1, p'.2⟩, fun z H5 y2 => ?_⟩
      obtain ⟨rfl, y2⟩ := y2
      have hz := y2 _ q4
      refine ⟨c2 _ _, ?_⟩
      have hle := flat_le hys (Nat.le_of_lt hlt2)
      refine ⟨z, h2 _ _, _, hD4, sz_lt (by omega), Ex.mut e4 hD, ?_⟩
      rw [upd_same, List.append_assoc]
      congr 3
      obtain ⟨hh, rfl⟩ := List.getElem?_eq_some_iff.mp hz
      rw [List.take_succ_eq_append_getElem hh]
    · have e : j' = ys.length := by omega
      subst e
      refine .inl ⟨⟨_, q4, Nat.le_refl _⟩, e4, ?_⟩
      rw [hD4, List.take_length, flat_take hys]
  · have e : i = xs.length := by omega
    subst e
    rw [← hlen, List.take_length] at hD2
    exact .inl ⟨⟨xs, q2, Nat.le_refl _⟩, next D H2 (fresh_back e1 hD) (e1.trans e2) hD2⟩
/-- over a new list -/
theorem el_lcN {K : PySem.W.Frag} {σ : L2.St} {H : Hp} {xs : List V} {tl te : TE} {tt : TT} {j : Nat} {vs : List Nat} (f : Nat → Bool) (g : Nat → V) (src : EvL tl σ H xs) (few : xs.length ≤ 40000) (clean : ∀ x, wipe ((wipe σ vs).set j (some x)) vs = wipe σ vs)
    (test : ∀ (i : Nat) (x : V) H1, Ex H H1 → xs[i]? = some x → EvT tt ((wipe σ vs).set j (some x)) H1 (f i)) (give : ∀ (i : Nat) (x : V) H1, Ex H H1 → xs[i]? = some x → f i = true → Ev te ((wipe σ vs).set j (some x)) H1 (g i)) :
    EvL (tLc (iList K tl) (gName j) tt te vs) σ H (given xs.length f g) := by
  intro H0 e0 Q next
  refine src H0 e0 _ fun a H1 ha e1 held => ?_
  have e01 : Ex H H1 := e0.trans e1
  refine ⟨a, rfl, ⟨xs, sq_of held⟩, fun made fresh => ?_⟩
  refine lc_list (xs := xs) (Cw H1 f g made) ⟨fresh, Ex.new fresh, upd_same⟩ ?stays ?turn ?done
  case stays =>
    intro i H' _ inv
    exact sq_of (inv.2.1 _ _ held)
  case turn =>
    intro i x H' at_i inv
    have small : i < 50000 := by
      have := (List.getElem?_eq_some_iff.mp at_i).1
      omega
    exact ⟨clean x, cw_turn inv small (test i x H1 e01 at_i) (give i x H1 e01 at_i)⟩
  case done =>
    intro H2 inv
    exact next made H2 (fresh_back e1 inv.1) (e1.trans inv.2.1) inv.2.2
theorem inSK {X : Cx} {K : PySem.W.Frag} (h : X.K = K) : OpR X (compareOp .In) (rIn K false) := by subst h; exact op_in_seq
theorem notInSK {X : Cx} {K : PySem.W.Frag} (h : X.K = K) : OpR X (compareOp .NotIn) (rIn K true) := by subst h; exact op_notIn_seq
theorem plLK {X : Cx} {K : PySem.W.Frag} {tg e : Expr} {tl : TE} (hK : X.K = K) (he : PE X e tl) : PI X tg e (iList K tl) := by
  subst hK
  exact pi_list he
end NL

/-! sets of texts, made of a list or a tuple; how many are in them -/
namespace NL
open PySem PySem.Spec PyProof.Rows L2 Evl
/-- just these texts lie in the set at S, and as many as they are where all are unlike -/
def TextSet (P : Program) (w : World) (h : Heap) (S : Addr) (xs : List Str) : Prop := ∃ n, h.SetOf (strKind P w) S (fun k => decide (k ∈ xs)) n ∧ n ≤ xs.length ∧ (n = xs.length ↔ xs.Nodup)
theorem nodup_app {xs : List Str} {x : Str} : (xs ++ [x]).Nodup ↔ xs.Nodup ∧ x ∉ xs := by
  rw [List.nodup_append]
  constructor
  · rintro ⟨a, b, c⟩
    exact ⟨a, fun h => c x h x (List.mem_singleton.mpr rfl) rfl⟩
  · rintro ⟨a, b⟩
    exact ⟨a, by simp, fun y hy z hz e => by rw [List.mem_singleton.mp hz] at e; subst e; exact b hy⟩
theorem TextSet.at {P : Program} {w : World} {h h' : Heap} {S : Addr} {xs : List Str} (t : TextSet P w h S xs) (k : ∀ o, h.get? S = some o → h'.get? S = some o) : TextSet P w h' S xs := by
  obtain ⟨n, ⟨o, es, ep, tb, ho, rest⟩, r⟩ := t
  exact ⟨n, ⟨o, es, ep, tb, k _ ho, rest⟩, r⟩
section
variable {P : Program} {w : World} {A : Around} {R : Result → Shared → Prop} {J : Addr} {fp wr : List Addr} {G : Array GenState → Array GenState → Prop} {m : Nat} {V1 : Nat → Value → Prop} {St : Nat → Shared → Prop}
/-- what walks over texts lays them all into the set -/
theorem walk_into (W : WalksS P w A.in1 J fp wr G m V1 St) {S : Addr} (off : S ∉ fp) (xs : List Str) (len : xs.length = m) (few : m + 1 < scanBound) (text : ∀ i v, V1 i v → ∃ t, v = .str (xs.getD i Str.empty) t) :
    ∀ (left i : Nat) (s : Shared), i + left = m → St i s → TextSet P w s.heap S (xs.take i) → (∀ s', Moved (S :: wr) G s s' → TextSet P w s'.heap S xs → R (.ok (.ret .none)) s') →
      codeAny (model P w) A (.builtin "set.update.loop" ⟨[.ref S, .ref J], []⟩) R s := by
  have offw : S ∉ wr := fun z => off (W.sub _ z)
  have more : ∀ b ∈ wr, b ∈ S :: wr := fun b z => List.mem_cons_of_mem _ z
  intro left
  induction left with
  | zero =>
    intro i s hi here has fin
    have e : i = m := by omega
    subst e
    rw [List.take_of_length_le (by omega)] at has
    refine codeAny_builtin PyProof.Rows.F.entry_set_update_loop ?_
    rw [Around.under_plainId PyProof.Rows.F.plain_set_update_loop]
    change wpAny _ A.in1 (pyNext (.ref J) >>= _) _ _ _
    refine wpAny_bind (W.done s _ _ here fun s1 mv => ?_)
    change wpAny _ A.in1 (ret Value.none) _ _ _
    exact wpAny_pure (fin s1 (mv.mono more) (has.at fun o ho => mv.heap S o offw ho))
  | succ left again =>
    intro i s hi here has fin
    refine codeAny_builtin PyProof.Rows.F.entry_set_update_loop ?_
    rw [Around.under_plainId PyProof.Rows.F.plain_set_update_loop]
    change wpAny _ A.in1 (pyNext (.ref J) >>= _) _ _ _
    refine wpAny_bind (W.item i s _ _ (by omega) here fun v s1 hv next mv => ?_)
    obtain ⟨t, rfl⟩ := text i v hv
    have has1 := has.at (h' := s1.heap) fun o ho => mv.heap S o offw ho
    generalize hx : xs.getD i Str.empty = x
    have hlt : i < xs.length := by omega
    have tk1 : xs.take (i + 1) = xs.take i ++ [x] := by
      rw [← hx, List.getD_eq_getElem?_getD, List.getElem?_eq_getElem hlt, List.take_succ_eq_append_getElem hlt]
      rfl
    change wpAny _ A.in1 (holding [Value.str x t] (setAdd S (.str x t)) >>= _) _ _ _
    refine wpAny_bind (wpAny_holding ?_)
    unfold setAdd
    refine wpAny_holding (wpAny_bind ((strKind P w).pyHash (k := x) (strKind_is _ _ _ _) ?_))
    obtain ⟨n, hs, hn, hnd⟩ := has1
    have hl : (xs.take i).length = i := by rw [List.length_take]; omega
    refine wpAny_setAddHashed_of (knd := strKind P w) (s := { s1 with toks := s1.toks + 1 }) (strKind_is _ _ _ _) rfl hs (by omega) fun h2 but hs2 => ?_
    have has2 : TextSet P w h2 S (xs.take (i + 1)) := by
      rw [tk1]
      refine ⟨_, SetOf_congr hs2 (S' := fun k => decide (k ∈ xs.take i ++ [x])) (fun k => ?_) rfl, ?_, ?_⟩
      · simp
      · rw [List.length_append, List.length_singleton]
        split <;> omega
      · rw [nodup_app, List.length_append, List.length_singleton, ← hnd]
        by_cases hm : x ∈ xs.take i
        · rw [if_pos (decide_eq_true hm)]
          constructor
          · intro z
            omega
          · intro z
            exact absurd hm z.2
        · rw [if_neg (by simp [hm])]
          constructor
          · intro z
            exact ⟨by omega, hm⟩
          · intro z
            omega
    refine wpAny_pure ⟨plainId_quiet PyProof.Rows.F.plain_set_update_loop _, again (i + 1) _ (by omega) (W.frame _ s1 _ _ next (Nat.le_succ _) fun b z o e => ?_) has2 fun s2 mv2 has3 => ?_⟩
    · rw [but.2 b (fun y => off (y ▸ z))]
      exact e
    · refine fin s2 (Moved.trans W.gtrans ((mv.mono more).then_heap (Nat.le_succ _) fun b o z e => ?_) mv2) has3
      rw [but.2 b (fun y => z (y ▸ List.mem_cons_self))]
      exact e
end
/-- a set as it is made, with nothing in it -/
abbrev bareSet (led : Bool) : Obj := { cls := .type "set", dict := none, data := .set #[] 0 (.fresh 0 0 led) }
section
variable {P : Program} {w : World} {A : Around} {E : Value → Shared → Prop} {s : Shared} {l : Addr} {its : Array Value} {xs : List Str} {Q : Value → Shared → Prop}
theorem bare_has {h : Heap} {S : Addr} {led : Bool} (e : h.get? S = some (bareSet led)) : TextSet P w h S [] := by
  refine ⟨0, SetOf_congr (S' := fun k => decide (k ∈ ([] : List Str))) ((setObjOf_fresh (knd := strKind P w) led).setOf e (by decide)) (fun k => by simp) rfl, Nat.le_refl _, by simp⟩
/-- set(texts) of a list -/
theorem set_list (calm : A.handled = none) (hl : s.heap.IsList l its) (hx : StrsAre its.toList xs) (few : its.size + 1 < scanBound)
    (told : ∀ (h2 : Heap) (tk : Nat), TextSet P w h2 s.heap.objs.size xs → (∀ b o, b < s.heap.objs.size → s.heap.get? b = some o → h2.get? b = some o) → Q (.ref s.heap.objs.size) { s with heap := h2, toks := tk }) :
    wpAny (model P w) A (call (.type "set") [.ref l]) Q E s := by
  have made := PySem.F.called_set
  obtain ⟨top, rest, mro⟩ := made.mro
  have y1 := made.made
  have y2 := made.sub
  have y3 := made.notType
  have y4 := made.canCreate
  have y5 := PySem.F.typeCall_set_1 (.ref l)
  refine wpAny_call (codeAny_of_tree ?_)
  change wpAny _ _ (callAny (.type "set") _) _ _ _
  refine wpAny_pure ⟨Code.quiet_builtin _ (by decide +kernel), codeAny_builtin PySem.F.entry_type_call ?_⟩
  rw [Around.under_plain (weight_type_call_type "set" [.ref l] []) rfl]
  repeat (any_goals (first | assumption | wp_step))
  refine codeAny_mono (code_set_new_1 (.ref l) (E := E) (Q₁ := fun v s1 => ∃ led : Bool, v = .ref s.heap.objs.size ∧ s1 = { s with heap := s.heap.push (bareSet led) }) fun led => ⟨led, rfl, rfl⟩) fun r s1 got => ?_
  match r, got with
  | .error e, got => exact got
  | .ok .next, got => exact got.elim
  | .ok .brk, got => exact got.elim
  | .ok .cont, got => exact got.elim
  | .ok (.ret v), got =>
    obtain ⟨led, rfl, rfl⟩ := got
    have at1 : (s.heap.push (bareSet led)).get? s.heap.objs.size = some (bareSet led) := Heap.get?_push_size _ rfl
    have ty1 : Shared.TypeIs { s with heap := s.heap.push (bareSet led) } (.ref s.heap.objs.size) "set" := ⟨_, at1, rfl⟩
    have y6 := made.init.lookup
    have y7 := made.init.bind (.ref s.heap.objs.size)
    repeat (any_goals (first | assumption | wp_step))
    refine codeAny_mono (codeAny_call_builtin (R := wants (fun u s2 => u = .none ∧ ∃ h2 tk, s2 = { s with heap := h2, toks := tk } ∧ TextSet P w h2 s.heap.objs.size xs ∧ ∀ b o, b < s.heap.objs.size → s.heap.get? b = some o → h2.get? b = some o) E) made.init.plain PySem.F.entry_set_init (check_set_init_1 ty1 ?_)) fun r2 s2 got2 => ?_
    · obtain ⟨ob, at2, cl, nn, dt⟩ := hl
      obtain ⟨_, od, _, os⟩ := ob
      simp only at cl dt
      subst cl dt
      have at3 := Heap.get?_push_of_some (bareSet led) at2
      have y8 := PySem.F.sub_list_set
      have y9 := PySem.F.sub_list_frozenset
      have y0 : (Value.type "list" == Value.type "dict") = false := by decide
      have lst1 : (s.heap.push (bareSet led)).IsList l its := ⟨_, at3, rfl, nn, rfl⟩
      unfold Builtin.«set.__init__» noKeywords Builtin.Frozenset.updateFrom
      generalize hit : pyIter = it
      wp_walk
      subst hit
      refine wpAny_pyIter_list lst1 (wpAny_bind (wpAny_runValue ?_))
      have low : l < s.heap.objs.size := Heap.lt_size at2
      have apart : l ≠ (s.heap.push (bareSet led)).objs.size := by
        rw [Heap.size_push]
        exact Nat.ne_of_lt (Nat.lt_succ_of_lt low)
      have off : s.heap.objs.size ∉ [(s.heap.push (bareSet led)).objs.size, l] := by
        rw [Heap.size_push]
        simp only [List.mem_cons, List.not_mem_nil, or_false, not_or]
        exact ⟨Nat.ne_of_lt (Nat.lt_succ_self _), Nat.ne_of_gt low⟩
      have len : xs.length = its.size := by
        rw [← StrsAre.len_eq hx, Array.length_toList]
      refine walk_into ((Walks.list (by simp [calm]) _ l apart its).toS) off xs len few (fun i v hv => SS.strs_at hx i v (by rw [Array.getElem?_toList]; exact hv)) its.size 0 _ (by omega) ⟨⟨_, Heap.get?_push_size _ rfl, rfl, rfl⟩, lst1.push _⟩ ?first ?last
      case first =>
        exact bare_has (led := led) (Heap.get?_push_of_some _ at1)
      case last =>
        intro s3 mv has
        obtain ⟨h3, g3, d3, t3, o3⟩ := s3
        have e1 : g3 = s.gens := mv.gens
        have e2 : d3 = s.drawn := mv.drawn
        have e3 : o3 = s.os := mv.os
        subst e1 e2 e3
        change wpAny _ _ _ _ _ _
        refine wpAny_pure ?_
        change wpAny _ _ (ret Value.none) _ _ _
        refine wpAny_pure ⟨rfl, h3, t3, rfl, has, fun b o lt e => mv.heap b o ?_ (Heap.get?_push_of_some _ (Heap.get?_push_of_some _ e))⟩
        rw [Heap.size_push]
        simp only [List.mem_cons, List.not_mem_nil, or_false, not_or]
        exact ⟨Nat.ne_of_lt lt, Nat.ne_of_lt (Nat.lt_succ_of_lt lt)⟩
    · match r2, got2 with
      | .error e, got2 => exact got2
      | .ok .next, got2 => exact got2.elim
      | .ok .brk, got2 => exact got2.elim
      | .ok .cont, got2 => exact got2.elim
      | .ok (.ret u), got2 =>
        obtain ⟨rfl, h2, tk, rfl, has, old⟩ := got2
        repeat (any_goals (first | assumption | wp_step))
        exact told h2 tk has old
end
/-- the set at a, of these texts -/
def SetX (P : Program) (w : World) (a : Addr) (xs : List Str) : HO := .ext fun h => TextSet P w h a xs
section
variable {X : Cx}
def rSetX (P : Program) (w : World) (K : PySem.W.Frag) : List V → Hp → VK → Prop := fun vs H Q => ∃ (l : Addr) (xs : List Str), vs = [.ref l] ∧ SqL K H l (xs.map V.str) ∧ xs.length ≤ 4000 ∧ ∀ p, H p = none → Q (.ref p) (upd H p (SetX P w p xs))
theorem setXK {K : PySem.W.Frag} {P : Program} {w : World} (h : X.K = K) (hP : X.prog = P) (hw : X.w = w) (hc : X.calm = true) : CallR X (.type "set") (rSetX P w K) := by
  subst h hP hw
  intro pins s σ H vs us Q I rel told
  obtain ⟨l, xs, rfl, hl, few, q⟩ := told
  obtain ⟨u, rfl, ru⟩ := vals1 rel
  cases ru
  obtain ⟨its, rv, pl, hz⟩ := I.list hl
  have len := rv.length
  rw [List.length_map] at len
  refine set_list (I.ok.hd hc) pl.isList (by simpa using strsAre_of rv) (by rw [List.size_toArray, ← len]; unfold scanBound; omega) fun h2 tk has old => ?_
  have ob : ∃ o, h2.get? s.heap.objs.size = some o := by
    obtain ⟨n, ⟨o, _, _, _, ho, _⟩, _⟩ := has
    exact ⟨o, ho⟩
  refine ⟨.ref s.heap.objs.size, _, I.laid (o := SetX X.prog X.w s.heap.objs.size xs) (fun b o e => old b o (Heap.lt_size e) e) (Nat.le_refl _) ⟨has, ob, fun h3 h4 t k => TextSet.at t k⟩, rfl, q _ (I.hok.fresh (Nat.le_refl _))⟩
def rLenX (P : Program) (w : World) : List V → Hp → VK → Prop := fun vs H Q => ∃ (a : Addr) (xs : List Str), vs = [.ref a] ∧ H a = some (SetX P w a xs) ∧ xs.length ≤ 4000 ∧ ∀ n : Nat, (n = xs.length ↔ xs.Nodup) → Q (.int n) H
theorem lenXK {P : Program} {w : World} (hP : X.prog = P) (hw : X.w = w) : CallR X (.builtin "len") (rLenX P w) := by
  subst hP hw
  intro pins s σ H vs us Q I rel told
  obtain ⟨a, xs, rfl, ha, few, q⟩ := told
  obtain ⟨u, rfl, ru⟩ := vals1 rel
  cases ru
  obtain ⟨n, ⟨o, es, ep, t, ho, hex, hd, _, _, _, hf, hn⟩, le, iff⟩ := (I.hok a _ ha).1
  refine call_len_set ho hex hd hf (by rw [hn]; omega) ⟨.int n, H, I.tok _, ⟨_, by rw [hn]⟩, q n iff⟩
end
end NL

/-! a set of whole numbers, of a list; how many are in it -/
namespace NL
open PySem PySem.Spec PyProof.Rows L2 Evl
/-- of so many numbers in it -/
def CntI (n : Nat) (xs : List Int) : Prop := (n = 0 ↔ xs = []) ∧ (n ≤ 1 ↔ ∀ a ∈ xs, ∀ b ∈ xs, a = b) ∧ n ≤ xs.length
theorem CntI.more {n : Nat} {xs : List Int} {x : Int} (c : CntI n xs) : CntI (if decide (x ∈ xs) = true then n else n + 1) (xs ++ [x]) := by
  obtain ⟨c1, c2, c3⟩ := c
  by_cases h : x ∈ xs
  · rw [if_pos (decide_eq_true h)]
    refine ⟨⟨fun z => ?_, fun z => by simp at z⟩, ⟨fun z a ha b hb => ?_, fun z => c2.mpr fun a ha b hb => z a (List.mem_append_left _ ha) b (List.mem_append_left _ hb)⟩, by rw [List.length_append]; simp; omega⟩
    · rw [c1.mp z] at h
      cases h
    · have ha' : a ∈ xs := by
        rcases List.mem_append.mp ha with y | y
        · exact y
        · rw [List.mem_singleton.mp y]; exact h
      have hb' : b ∈ xs := by
        rcases List.mem_append.mp hb with y | y
        · exact y
        · rw [List.mem_singleton.mp y]; exact h
      exact c2.mp z a ha' b hb'
  · rw [if_neg (by simp [h])]
    refine ⟨⟨fun z => by omega, fun z => by simp at z⟩, ⟨fun z a ha b hb => ?_, fun z => ?_⟩, by rw [List.length_append]; simp; omega⟩
    · have := c1.mp (by omega)
      subst this
      simp at ha hb
      rw [ha, hb]
    · cases xs with
      | nil =>
        have := c1.mpr rfl
        omega
      | cons y ys =>
        have := z y (by simp) x (by simp)
        exact (h (by rw [← this]; simp)).elim
def IntSet (P : Program) (w : World) (h : Heap) (S : Addr) (xs : List Int) : Prop := ∃ n, h.SetOf (intKind P w) S (fun k => decide (k ∈ xs)) n ∧ CntI n xs
theorem ints_lenI : ∀ {us : List Value} {xs : List Int}, IntsAre us xs → us.length = xs.length
  | _, _, .nil => rfl
  | _, _, .cons _ _ h => by rw [List.length_cons, List.length_cons, ints_lenI h]
theorem ints_atI : ∀ {us : List Value} {xs : List Int}, IntsAre us xs → ∀ (i : Nat) (v : Value), us[i]? = some v → ∃ t, v = .int (xs.getD i 0) t
  | _, _, h, i, v, e => by
    induction h generalizing i with
    | nil => cases e
    | cons a b =>
      cases i with
      | zero =>
        cases e
        exact ⟨_, rfl⟩
      | succ i =>
        rename_i ih
        obtain ⟨t, r⟩ := ih i (by simpa using e)
        exact ⟨t, by simpa using r⟩
theorem IntSet.at {P : Program} {w : World} {h h' : Heap} {S : Addr} {xs : List Int} (t : IntSet P w h S xs) (k : ∀ o, h.get? S = some o → h'.get? S = some o) : IntSet P w h' S xs := by
  obtain ⟨n, ⟨o, es, ep, tb, ho, rest⟩, r⟩ := t
  exact ⟨n, ⟨o, es, ep, tb, k _ ho, rest⟩, r⟩
section
variable {P : Program} {w : World} {A : Around} {R : Result → Shared → Prop} {J : Addr} {fp wr : List Addr} {G : Array GenState → Array GenState → Prop} {m : Nat} {V1 : Nat → Value → Prop} {St : Nat → Shared → Prop}
/-- what walks over texts lays them all into the set -/
theorem walk_intoI (W : WalksS P w A.in1 J fp wr G m V1 St) {S : Addr} (off : S ∉ fp) (xs : List Int) (len : xs.length = m) (few : m + 1 < scanBound) (text : ∀ i v, V1 i v → ∃ t, v = .int (xs.getD i 0) t) :
    ∀ (left i : Nat) (s : Shared), i + left = m → St i s → IntSet P w s.heap S (xs.take i) → (∀ s', Moved (S :: wr) G s s' → IntSet P w s'.heap S xs → R (.ok (.ret .none)) s') →
      codeAny (model P w) A (.builtin "set.update.loop" ⟨[.ref S, .ref J], []⟩) R s := by
  have offw : S ∉ wr := fun z => off (W.sub _ z)
  have more : ∀ b ∈ wr, b ∈ S :: wr := fun b z => List.mem_cons_of_mem _ z
  intro left
  induction left with
  | zero =>
    intro i s hi here has fin
    have e : i = m := by omega
    subst e
    rw [List.take_of_length_le (by omega)] at has
    refine codeAny_builtin PyProof.Rows.F.entry_set_update_loop ?_
    rw [Around.under_plainId PyProof.Rows.F.plain_set_update_loop]
    change wpAny _ A.in1 (pyNext (.ref J) >>= _) _ _ _
    refine wpAny_bind (W.done s _ _ here fun s1 mv => ?_)
    change wpAny _ A.in1 (ret Value.none) _ _ _
    exact wpAny_pure (fin s1 (mv.mono more) (has.at fun o ho => mv.heap S o offw ho))
  | succ left again =>
    intro i s hi here has fin
    refine codeAny_builtin PyProof.Rows.F.entry_set_update_loop ?_
    rw [Around.under_plainId PyProof.Rows.F.plain_set_update_loop]
    change wpAny _ A.in1 (pyNext (.ref J) >>= _) _ _ _
    refine wpAny_bind (W.item i s _ _ (by omega) here fun v s1 hv next mv => ?_)
    obtain ⟨t, rfl⟩ := text i v hv
    have has1 := has.at (h' := s1.heap) fun o ho => mv.heap S o offw ho
    generalize hx : xs.getD i 0 = x
    have hlt : i < xs.length := by omega
    have tk1 : xs.take (i + 1) = xs.take i ++ [x] := by
      rw [← hx, List.getD_eq_getElem?_getD, List.getElem?_eq_getElem hlt, List.take_succ_eq_append_getElem hlt]
      rfl
    change wpAny _ A.in1 (holding [Value.int x t] (setAdd S (.int x t)) >>= _) _ _ _
    refine wpAny_bind (wpAny_holding ?_)
    unfold setAdd
    refine wpAny_holding (wpAny_bind ((intKind P w).pyHash (k := x) (intKind_is _ _ _ _) ?_))
    obtain ⟨n, hs, cn⟩ := has1
    have hn := cn.2.2
    have hl : (xs.take i).length = i := by rw [List.length_take]; omega
    refine wpAny_setAddHashed_of (knd := intKind P w) (s := { s1 with toks := s1.toks + 1 }) (intKind_is _ _ _ _) rfl hs (by omega) fun h2 but hs2 => ?_
    have has2 : IntSet P w h2 S (xs.take (i + 1)) := by
      rw [tk1]
      refine ⟨_, SetOf_congr hs2 (S' := fun k => decide (k ∈ xs.take i ++ [x])) (fun k => ?_) rfl, cn.more⟩
      simp
    refine wpAny_pure ⟨plainId_quiet PyProof.Rows.F.plain_set_update_loop _, again (i + 1) _ (by omega) (W.frame _ s1 _ _ next (Nat.le_succ _) fun b z o e => ?_) has2 fun s2 mv2 has3 => ?_⟩
    · rw [but.2 b (fun y => off (y ▸ z))]
      exact e
    · refine fin s2 (Moved.trans W.gtrans ((mv.mono more).then_heap (Nat.le_succ _) fun b o z e => ?_) mv2) has3
      rw [but.2 b (fun y => z (y ▸ List.mem_cons_self))]
      exact e
end
/-- a set as it is made, with nothing in it -/
abbrev bareSetI (led : Bool) : Obj := { cls := .type "set", dict := none, data := .set #[] 0 (.fresh 0 0 led) }
section
variable {P : Program} {w : World} {A : Around} {E : Value → Shared → Prop} {s : Shared} {l : Addr} {its : Array Value} {xs : List Int} {Q : Value → Shared → Prop}
theorem bare_hasI {h : Heap} {S : Addr} {led : Bool} (e : h.get? S = some (bareSetI led)) : IntSet P w h S [] := by
  refine ⟨0, SetOf_congr (S' := fun k => decide (k ∈ ([] : List Int))) ((setObjOf_fresh (knd := intKind P w) led).setOf e (by decide)) (fun k => by simp) rfl, by simp [CntI]⟩
/-- set(texts) of a list -/
theorem set_listI (calm : A.handled = none) (hl : s.heap.IsList l its) (hx : IntsAre its.toList xs) (few : its.size + 1 < scanBound)
    (told : ∀ (h2 : Heap) (tk : Nat), IntSet P w h2 s.heap.objs.size xs → (∀ b o, b < s.heap.objs.size → s.heap.get? b = some o → h2.get? b = some o) → Q (.ref s.heap.objs.size) { s with heap := h2, toks := tk }) :
    wpAny (model P w) A (call (.type "set") [.ref l]) Q E s := by
  have made := PySem.F.called_set
  obtain ⟨top, rest, mro⟩ := made.mro
  have y1 := made.made
  have y2 := made.sub
  have y3 := made.notType
  have y4 := made.canCreate
  have y5 := PySem.F.typeCall_set_1 (.ref l)
  refine wpAny_call (codeAny_of_tree ?_)
  change wpAny _ _ (callAny (.type "set") _) _ _ _
  refine wpAny_pure ⟨Code.quiet_builtin _ (by decide +kernel), codeAny_builtin PySem.F.entry_type_call ?_⟩
  rw [Around.under_plain (weight_type_call_type "set" [.ref l] []) rfl]
  repeat (any_goals (first | assumption | wp_step))
  refine codeAny_mono (code_set_new_1 (.ref l) (E := E) (Q₁ := fun v s1 => ∃ led : Bool, v = .ref s.heap.objs.size ∧ s1 = { s with heap := s.heap.push (bareSetI led) }) fun led => ⟨led, rfl, rfl⟩) fun r s1 got => ?_
  match r, got with
  | .error e, got => exact got
  | .ok .next, got => exact got.elim
  | .ok .brk, got => exact got.elim
  | .ok .cont, got => exact got.elim
  | .ok (.ret v), got =>
    obtain ⟨led, rfl, rfl⟩ := got
    have at1 : (s.heap.push (bareSetI led)).get? s.heap.objs.size = some (bareSetI led) := Heap.get?_push_size _ rfl
    have ty1 : Shared.TypeIs { s with heap := s.heap.push (bareSetI led) } (.ref s.heap.objs.size) "set" := ⟨_, at1, rfl⟩
    have y6 := made.init.lookup
    have y7 := made.init.bind (.ref s.heap.objs.size)
    repeat (any_goals (first | assumption | wp_step))
    refine codeAny_mono (codeAny_call_builtin (R := wants (fun u s2 => u = .none ∧ ∃ h2 tk, s2 = { s with heap := h2, toks := tk } ∧ IntSet P w h2 s.heap.objs.size xs ∧ ∀ b o, b < s.heap.objs.size → s.heap.get? b = some o → h2.get? b = some o) E) made.init.plain PySem.F.entry_set_init (check_set_init_1 ty1 ?_)) fun r2 s2 got2 => ?_
    · obtain ⟨ob, at2, cl, nn, dt⟩ := hl
      obtain ⟨_, od, _, os⟩ := ob
      simp only at cl dt
      subst cl dt
      have at3 := Heap.get?_push_of_some (bareSetI led) at2
      have y8 := PySem.F.sub_list_set
      have y9 := PySem.F.sub_list_frozenset
      have y0 : (Value.type "list" == Value.type "dict") = false := by decide
      have lst1 : (s.heap.push (bareSetI led)).IsList l its := ⟨_, at3, rfl, nn, rfl⟩
      unfold Builtin.«set.__init__» noKeywords Builtin.Frozenset.updateFrom
      generalize hit : pyIter = it
      wp_walk
      subst hit
      refine wpAny_pyIter_list lst1 (wpAny_bind (wpAny_runValue ?_))
      have low : l < s.heap.objs.size := Heap.lt_size at2
      have apart : l ≠ (s.heap.push (bareSetI led)).objs.size := by
        rw [Heap.size_push]
        exact Nat.ne_of_lt (Nat.lt_succ_of_lt low)
      have off : s.heap.objs.size ∉ [(s.heap.push (bareSetI led)).objs.size, l] := by
        rw [Heap.size_push]
        simp only [List.mem_cons, List.not_mem_nil, or_false, not_or]
        exact ⟨Nat.ne_of_lt (Nat.lt_succ_self _), Nat.ne_of_gt low⟩
      have len : xs.length = its.size := by
        rw [← ints_lenI hx, Array.length_toList]
      refine walk_intoI ((Walks.list (by simp [calm]) _ l apart its).toS) off xs len few (fun i v hv => ints_atI hx i v (by rw [Array.getElem?_toList]; exact hv)) its.size 0 _ (by omega) ⟨⟨_, Heap.get?_push_size _ rfl, rfl, rfl⟩, lst1.push _⟩ ?first ?last
      case first =>
        exact bare_hasI (led := led) (Heap.get?_push_of_some _ at1)
      case last =>
        intro s3 mv has
        obtain ⟨h3, g3, d3, t3, o3⟩ := s3
        have e1 : g3 = s.gens := mv.gens
        have e2 : d3 = s.drawn := mv.drawn
        have e3 : o3 = s.os := mv.os
        subst e1 e2 e3
        change wpAny _ _ _ _ _ _
        refine wpAny_pure ?_
        change wpAny _ _ (ret Value.none) _ _ _
        refine wpAny_pure ⟨rfl, h3, t3, rfl, has, fun b o lt e => mv.heap b o ?_ (Heap.get?_push_of_some _ (Heap.get?_push_of_some _ e))⟩
        rw [Heap.size_push]
        simp only [List.mem_cons, List.not_mem_nil, or_false, not_or]
        exact ⟨Nat.ne_of_lt lt, Nat.ne_of_lt (Nat.lt_succ_of_lt lt)⟩
    · match r2, got2 with
      | .error e, got2 => exact got2
      | .ok .next, got2 => exact got2.elim
      | .ok .brk, got2 => exact got2.elim
      | .ok .cont, got2 => exact got2.elim
      | .ok (.ret u), got2 =>
        obtain ⟨rfl, h2, tk, rfl, has, old⟩ := got2
        repeat (any_goals (first | assumption | wp_step))
        exact told h2 tk has old
end
/-- the set at a, of these texts -/
def SetI (P : Program) (w : World) (a : Addr) (xs : List Int) : HO := .ext fun h => IntSet P w h a xs
section
variable {X : Cx}
def rSetI (P : Program) (w : World) (K : PySem.W.Frag) : List V → Hp → VK → Prop := fun vs H Q => ∃ (l : Addr) (xs : List Int), vs = [.ref l] ∧ SqL K H l (xs.map V.int) ∧ xs.length ≤ 4000 ∧ ∀ p, H p = none → Q (.ref p) (upd H p (SetI P w p xs))
theorem setIK {K : PySem.W.Frag} {P : Program} {w : World} (h : X.K = K) (hP : X.prog = P) (hw : X.w = w) (hc : X.calm = true) : CallR X (.type "set") (rSetI P w K) := by
  subst h hP hw
  intro pins s σ H vs us Q I rel told
  obtain ⟨l, xs, rfl, hl, few, q⟩ := told
  obtain ⟨u, rfl, ru⟩ := vals1 rel
  cases ru
  obtain ⟨its, rv, pl, hz⟩ := I.list hl
  have len := rv.length
  rw [List.length_map] at len
  refine set_listI (I.ok.hd hc) pl.isList (by simpa using intsAre_of rv) (by rw [List.size_toArray, ← len]; unfold scanBound; omega) fun h2 tk has old => ?_
  have ob : ∃ o, h2.get? s.heap.objs.size = some o := by
    obtain ⟨n, ⟨o, _, _, _, ho, _⟩, _⟩ := has
    exact ⟨o, ho⟩
  refine ⟨.ref s.heap.objs.size, _, I.laid (o := SetI X.prog X.w s.heap.objs.size xs) (fun b o e => old b o (Heap.lt_size e) e) (Nat.le_refl _) ⟨has, ob, fun h3 h4 t k => IntSet.at t k⟩, rfl, q _ (I.hok.fresh (Nat.le_refl _))⟩
def rLenI (P : Program) (w : World) : List V → Hp → VK → Prop := fun vs H Q => ∃ (a : Addr) (xs : List Int), vs = [.ref a] ∧ H a = some (SetI P w a xs) ∧ xs.length ≤ 4000 ∧ ∀ n : Nat, CntI n xs → Q (.int n) H
theorem lenIK {P : Program} {w : World} (hP : X.prog = P) (hw : X.w = w) : CallR X (.builtin "len") (rLenI P w) := by
  subst hP hw
  intro pins s σ H vs us Q I rel told
  obtain ⟨a, xs, rfl, ha, few, q⟩ := told
  obtain ⟨u, rfl, ru⟩ := vals1 rel
  cases ru
  obtain ⟨n, ⟨o, es, ep, t, ho, hex, hd, _, _, _, hf, hn⟩, cn⟩ := (I.hok a _ ha).1
  refine call_len_set ho hex hd hf (by have := cn.2.2; rw [hn]; omega) ⟨.int n, H, I.tok _, ⟨_, by rw [hn]⟩, q n cn⟩
end
end NL

/-! sequences against empty ones; xs[::-1] of a tuple; data with their dicts, repr and str of them -/
namespace NL
open PySem PySem.Spec PyProof.Rows L2 Evl
section
variable {X : Cx} {K : PySem.W.Frag}
def rEqT0 (K : PySem.W.Frag) (f : Bool → Bool) : R2 := fun x y H Q => ∃ a b xs, x = .ref a ∧ y = .ref b ∧ SqT K H a xs ∧ SqT K H b [] ∧ Q (.bl (f xs.isEmpty)) H
def rEqL0 (K : PySem.W.Frag) (f : Bool → Bool) : R2 := fun x y H Q => ∃ a b xs, x = .ref a ∧ y = .ref b ∧ SqL K H a xs ∧ SqL K H b [] ∧ Q (.bl (f xs.isEmpty)) H
theorem vals0 {us : List Value} (h : Vals [] us) : us = [] := by cases h; rfl
theorem vals_isE {xs : List V} {us : List Value} (h : Vals xs us) : us.isEmpty = xs.isEmpty := by
  cases h <;> rfl
theorem size_isE (us : List Value) : (us.toArray.size == ([] : List Value).toArray.size) = us.isEmpty := by
  cases us <;> simp
theorem eqT0K (h : X.K = K) (hu : X.A.units < cLine) : OpR X (compareOp .Eq) (rEqT0 K id) := by
  subst h
  intro pins s σ H x y v u Q I rx ry told
  obtain ⟨a, b, xs, rfl, rfl, ha, hb, q⟩ := told
  cases rx
  cases ry
  obtain ⟨its, r1, p1, _⟩ := I.tuple ha
  obtain ⟨its2, r2, p2, _⟩ := I.tuple hb
  have e := vals0 r2
  subst e
  refine SeqAt.eq_tupleAt (e := fun _ => true) p1 p2 hu (fun j _ h2 => absurd h2 (by simp)) ?_
  refine ⟨.bl xs.isEmpty, H, I, ?_, q⟩
  rw [size_isE, vals_isE r1]
  simp
  rfl
theorem neT0K (h : X.K = K) (hu : X.A.units < cLine) : OpR X (compareOp .NotEq) (rEqT0 K not) := by
  subst h
  intro pins s σ H x y v u Q I rx ry told
  obtain ⟨a, b, xs, rfl, rfl, ha, hb, q⟩ := told
  cases rx
  cases ry
  obtain ⟨its, r1, p1, _⟩ := I.tuple ha
  obtain ⟨its2, r2, p2, _⟩ := I.tuple hb
  have e := vals0 r2
  subst e
  refine SeqAt.RcNeAt.tuples (e := fun _ => true) p1 p2 hu (fun j _ h2 => absurd h2 (by simp)) _ _ _ _ ?_
  refine ⟨.bl (!xs.isEmpty), H, I, ?_, q⟩
  rw [size_isE, vals_isE r1]
  simp
  rfl
theorem eqL0K (h : X.K = K) (hu : X.A.units < cLine) : OpR X (compareOp .Eq) (rEqL0 K id) := by
  subst h
  intro pins s σ H x y v u Q I rx ry told
  obtain ⟨a, b, xs, rfl, rfl, ha, hb, q⟩ := told
  cases rx
  cases ry
  obtain ⟨its, r1, p1, _⟩ := I.list ha
  obtain ⟨its2, r2, p2, _⟩ := I.list hb
  have e := vals0 r2
  subst e
  have ie := vals_isE r1
  cases its with
  | nil =>
    refine SeqAt.eq_listAt (e := fun _ => true) p1.isList p2.isList rfl hu (fun j _ h2 => absurd h2 (by simp)) ?_
    refine ⟨.bl xs.isEmpty, H, I, ?_, q⟩
    rw [← ie]
    rfl
  | cons i r =>
    refine SeqAt.eq_list_lengthsAt p1.isList p2.isList (by simp) hu ?_
    refine ⟨.bl xs.isEmpty, H, I, ?_, q⟩
    rw [← ie]
    rfl
end
/-! ### xs[::-1] of a tuple -/
theorem back_places (n : Nat) : Builtin.Slice.sliceAdjust none none (-1) (n : Int) = ((n : Int) - 1, -1) ∧ Builtin.Slice.slicePlaces ((n : Int) - 1) (-1) (-1) = n := by
  constructor
  · simp [Builtin.Slice.sliceAdjust]
  · unfold Builtin.Slice.slicePlaces
    simp
    omega
theorem back_items (xs : Array Value) : ((List.range xs.size).filterMap fun (k : Nat) => xs[(((xs.size : Int) - 1) + (k : Int) * (-1)).toNat]?).toArray = xs.toList.reverse.toArray := by
  have e : (List.range xs.size).filterMap (fun (k : Nat) => xs[(((xs.size : Int) - 1) + (k : Int) * (-1)).toNat]?) = ((List.range xs.size).map fun k => xs.size - 1 - k).filterMap (fun j => xs[j]?) := by
    rw [List.filterMap_map]
    have all : ∀ l : List Nat, (∀ k ∈ l, k < xs.size) → l.filterMap (fun (k : Nat) => xs[(((xs.size : Int) - 1) + (k : Int) * (-1)).toNat]?) = l.filterMap ((fun j => xs[j]?) ∘ fun k => xs.size - 1 - k) := by
      intro l
      induction l with
      | nil => intro _; rfl
      | cons k l ih =>
        intro h
        have := h k (List.mem_cons_self ..)
        have e2 : (((xs.size : Int) - 1) + (k : Int) * (-1)).toNat = xs.size - 1 - k := by omega
        rw [List.filterMap_cons, List.filterMap_cons, e2, ih fun y hy => h y (List.mem_cons_of_mem _ hy)]
        rfl
    exact all _ fun k hk => List.mem_range.mp hk
  rw [e, PySem.W.krv_range, List.filterMap_reverse, PySem.W.krv_all]
section
variable {P : Program} {w : World} {A : Around} {E : Value → Shared → Prop} {s : Shared}
theorem getItem_back {t sl : Addr} {its : Array Value} {vk : Value} {Q : Value → Shared → Prop} (ht : IsTup s.heap t its) (hs : s.heap.IsSliceOf sl .none .none vk) (pk : IsPart vk (some (-1))) (few : its.size ≤ sizeLine)
    (q : Q (.ref s.heap.objs.size) { s with heap := s.heap.push { cls := .type "tuple", data := .seq its.toList.reverse.toArray } }) : wpAny (model P w) A (getItem (.ref t) (.ref sl)) Q E s := by
  have fits : sizeOk (.seq its.toList.reverse.toArray) := by
    change its.toList.reverse.toArray.size ≤ sizeLine
    simpa using few
  obtain ⟨os, h1, h2, h3⟩ := id hs
  have ty : s.TypeIs (.ref sl) "slice" := ⟨os, h1, h2⟩
  unfold getItem
  try with_reducible refine wpAny_holding ?_
  first | refine wpAny_bind (wpAny_pure ?_) | skip
  refine wpAny_bind (wpAny_sequenceKey ht.typeIs (by decide) ?_)
  refine wpAny_bind (wpAny_callSpecial?_slot (name := Str.ofString "__getitem__") ht.typeIs PyProof.Rows.slot_tuple_getitem (wpAny_call_entry PyProof.Rows.slot_tuple_getitem ht.typeIs entry_tuple_getitem ?_ (args_tuple_getitem _ _)))
  change wpAny _ _ (Builtin.Tuple.tupleItemsOf (.ref t) >>= _) _ _ _
  refine wpAny_bind (tupleItemsOf_ ht (wpAny_bind (wpAny_typeOf ty ?_)))
  rw [if_pos (by decide)]
  refine wpAny_bind ?_
  unfold Builtin.Slice.sliceApplied Builtin.Slice.sliceFields
  refine wpAny_bind (wpAny_bind (wpAny_field h1 h3 (x := .none) rfl (wpAny_bind (wpAny_field h1 h3 (x := .none) rfl (wpAny_bind (wpAny_field h1 h3 (x := vk) rfl (wpAny_pure ?_)))))))
  refine wpAny_bind (HT.slicePart_ pk ?_)
  change wpAny _ _ (if ((-1 : Int) == 0) = true then _ else _) _ _ _
  rw [if_neg (by decide)]
  refine wpAny_bind (slicePart_none (wpAny_bind (slicePart_none (wpAny_bind (wpAny_pure ?_)))))
  change wpAny _ _ (match Builtin.Slice.sliceAdjust none none (-1) (its.size : Int) with | (lo, hi) => pure (lo, (-1 : Int), Builtin.Slice.slicePlaces lo hi (-1))) _ _ _
  rw [(back_places its.size).1]
  change wpAny _ _ (pure ((its.size : Int) - 1, (-1 : Int), Builtin.Slice.slicePlaces ((its.size : Int) - 1) (-1) (-1))) _ _ _
  rw [(back_places its.size).2]
  refine wpAny_pure ?_
  change wpAny _ _ (if (((its.size : Int) - 1 == 0 && (-1 : Int) == 1 && its.size == its.size) = true) then _ else _) _ _ _
  rw [if_neg (by simp), back_items]
  first
    | exact wpAny_bind (m := Builtin.Tuple.tupleExact _) (wpAny_newObj_type (wpAny_pure ⟨_, rfl, wpAny_pure q⟩) fits)
    | exact wpAny_bind (m := Builtin.Tuple.tupleExact _) (wpAny_newObj_type (wpAny_bind (wpAny_pure (wpAny_pure ⟨_, rfl, wpAny_pure q⟩))) fits)
    | exact wpAny_bind (wpAny_bind (m := Builtin.Tuple.tupleExact _) (wpAny_newObj_type (wpAny_pure (wpAny_pure ⟨_, rfl, wpAny_pure q⟩)) fits))
    | exact wpAny_bind (wpAny_bind (m := Builtin.Tuple.tupleExact _) (wpAny_newObj_type (wpAny_pure ⟨_, rfl, wpAny_pure q⟩) fits))
end
def tRevT (K : PySem.W.Frag) (te : TE) : TE := fun σ H Q => te σ H fun x H1 => ∃ a xs, x = .ref a ∧ SqT K H1 a xs ∧ ∀ p, H1 p = none → Q (.ref p) (upd H1 p (.tup xs.reverse))
section
variable {X : Cx}
theorem pe_revT {e : Expr} {te : TE} {k : Nat} {p1 p2 p3 pos : Pos} {K : PySem.W.Frag} (hK : X.K = K) (he : PE X e te) : PE X (.Subscript e (.Slice none none (some (.UnaryOp .USub (.Constant (.int 1) k p1) p2)) p3) pos) (tRevT K te) := by
  subst hK
  constructor
  intro pins s σ H Q I reading
  refine Subscript_ (thn (he.run pins s σ H _ I reading) fun v s1 got => ?_)
  obtain ⟨x, H1, I1, r1, a, xs, rfl, hx, q⟩ := got
  cases r1
  have part : PO X (some (.UnaryOp .USub (.Constant (.int 1) k p1) p2)) (tPart (tUn (rU fun i => .int (-i)) (tC (.int 1)))) := po_some (pe_un un_neg pe_int)
  refine wpAny_Slice (thn (po_none.run pins s1 σ H1 (fun o H2 => o = none ∧ H2 = H1) I1 ⟨rfl, rfl⟩) fun v2 s2 g2 => ?_)
  obtain ⟨o2, H2, I2, p2', rfl, rfl⟩ := g2
  refine thn (po_none.run pins s2 σ H2 (fun o H3 => o = none ∧ H3 = H2) I2 ⟨rfl, rfl⟩) fun v3 s3 g3 => ?_
  obtain ⟨o3, H3, I3, p3', rfl, rfl⟩ := g3
  refine thn (part.run pins s3 σ H3 (fun o H4 => o = some (-1) ∧ H4 = H3) I3 ⟨1, rfl, -1, rfl, rfl, rfl⟩) fun v4 s4 g4 => ?_
  obtain ⟨o4, H4, I4, p4', rfl, rfl⟩ := g4
  cases p2'
  cases p3'
  have I5 : Inv X pins σ H4 { s4 with heap := s4.heap.push { cls := .type "slice", data := .fields #[Value.none, Value.none, v4] } } := I4.kept (t' := s4.toks) fun b ob z => Heap.get?_push_of_some _ z
  obtain ⟨its, r, ht, hz⟩ := I5.tuple hx
  have len := r.length
  change wpAny (model X.prog X.w) X.A (subscriptTail e (.Slice none none (some (.UnaryOp .USub (.Constant (.int 1) k p1) p2)) p3) (.ref a) (.ref s4.heap.objs.size)) (EP X pins σ Q) X.xe { s4 with heap := s4.heap.push { cls := .type "slice", data := .fields #[Value.none, Value.none, v4] } }
  refine tail_any (ops := [.ref a, .ref s4.heap.objs.size]) ht.typeIs PyProof.Rows.slot_tuple_getitem.lookup ?_ (by with_unfolding_all rfl)
  refine getItem_back ht (Heap.IsSliceOf.new _ Value.none Value.none v4) p4' (by rw [List.size_toArray, ← len]; exact hz) ?_
  refine ⟨.ref _, _, I5.laid (t' := s4.toks) (o := .tup xs.reverse) (fun b ob z => Heap.get?_push_of_some _ z) (Nat.le_refl _) ?_, rfl, q _ (I5.hok.fresh (Nat.le_refl _))⟩
  refine ⟨by rw [List.length_reverse]; exact hz, its.reverse, r.reverse, _, Heap.get?_push_size _ rfl, rfl, 0, by simp⟩
end
/-! ### data with all that is in them -/
mutual
inductive Dy (K : PySem.W.Frag) (H : Hp) : V → PyData → Prop
  | non : Dy K H .non .none
  | bl (b : Bool) : Dy K H (.bl b) (.bool b)
  | int (i : Int) : Dy K H (.int i) (.int i)
  | str (x : Str) : Dy K H (.str x) (.str x)
  | lst {a : Addr} {xs : List V} {ds : List PyData} : H a = some (.lst xs) → DyAll K H xs ds → Dy K H (.ref a) (.list ds)
  | tup {a : Addr} {xs : List V} {ds : List PyData} : SqT K H a xs → DyAll K H xs ds → Dy K H (.ref a) (.tuple ds)
  | dct {a : Addr} : H a = some (.dK []) → Dy K H (.ref a) (.dict [])
  | dc1 {a : Addr} {z : Str} {v : V} {d : PyData} : H a = some (.dK [(Sum.inr z, v)]) → Dy K H v d → Dy K H (.ref a) (.dict [(.str z, d)])
inductive DyAll (K : PySem.W.Frag) (H : Hp) : List V → List PyData → Prop
  | nil : DyAll K H [] []
  | cons {v : V} {vs : List V} {d : PyData} {ds : List PyData} : Dy K H v d → DyAll K H vs ds → DyAll K H (v :: vs) (d :: ds)
end
mutual
theorem dy_mono {K : PySem.W.Frag} {H H' : Hp} (e : Ex H H') : ∀ {d : PyData} {v : V}, Dy K H v d → Dy K H' v d
  | .none, _, h => by cases h; exact .non
  | .bool b, _, h => by cases h; exact .bl b
  | .int i, _, h => by cases h; exact .int i
  | .str x, _, h => by cases h; exact .str x
  | .list ds, _, h => by
    cases h with
    | lst hs ha => exact .lst (e _ _ hs) (dya_mono e ha)
  | .tuple ds, _, h => by
    cases h with
    | tup hs ha => exact .tup (ex_t e hs) (dya_mono e ha)
  | .dict [], _, h => by
    cases h with
    | dct hd => exact .dct (e _ _ hd)
  | .dict [(.str z, d)], _, h => by
    cases h with
    | dc1 hd hv => exact .dc1 (e _ _ hd) (dy_mono e hv)
theorem dya_mono {K : PySem.W.Frag} {H H' : Hp} (e : Ex H H') : ∀ {ds : List PyData} {vs : List V}, DyAll K H vs ds → DyAll K H' vs ds
  | [], _, h => by cases h; exact .nil
  | d :: ds, _, h => by
    cases h with
    | cons h1 h2 => exact .cons (dy_mono e h1) (dya_mono e h2)
end
mutual
theorem dy_dx {K : PySem.W.Frag} {H : Hp} : ∀ {d : PyData} {v : V}, Dy K H v d → Dx K H v d
  | .none, _, h => by cases h; exact .non
  | .bool b, _, h => by cases h; exact .bl b
  | .int i, _, h => by cases h; exact .int i
  | .str x, _, h => by cases h; exact .str x
  | .list ds, _, h => by
    cases h with
    | lst hs ha => exact .lst (sq_of hs) (dya_dx ha)
  | .tuple ds, _, h => by
    cases h with
    | tup hs ha => exact .tup hs (dya_dx ha)
  | .dict kvs, _, h => by
    cases h with
    | dct hd => exact .dct hd
    | dc1 hd _ => exact .dct hd
theorem dya_dx {K : PySem.W.Frag} {H : Hp} : ∀ {ds : List PyData} {vs : List V}, DyAll K H vs ds → DxAll K H vs ds
  | [], _, h => by cases h; exact .nil
  | d :: ds, _, h => by
    cases h with
    | cons h1 h2 => exact .cons (dy_dx h1) (dya_dx h2)
end
theorem pairs_one {P : Program} {w : World} {es : List DictEntry} {q : Key × Value} (h : Pairs (mixKind P w) es [q]) : ∃ en : DictEntry, es = [en] ∧ (mixKind P w).is q.1 en.key = true ∧ en.val = q.2 := by
  cases h with
  | cons h1 h2 t =>
    cases t
    exact ⟨_, rfl, h1, h2⟩
theorem key_str {P : Program} {w : World} {z : Str} {v : Value} (h : (mixKind P w).is (Sum.inr z) v = true) : ∃ t, v = .str z t := by
  rcases keyIs_shape (k := Sum.inr z) (v := v) h with ⟨i, t, e, _⟩ | ⟨x, t, e, r⟩
  · cases e
  · cases e
    exact ⟨t, r⟩
/-- the modules' dict lies apart from all that is made here -/
def Sy (K : PySem.W.Frag) (H : Hp) : Prop := (∃ o, K.lookup sysModules = some o) ∨ ∃ o u, H sysModules = some (.frz o u)
theorem Sy.ex {K : PySem.W.Frag} {H H' : Hp} (h : Sy K H) (e : Ex H H') : Sy K H' := by
  rcases h with h | ⟨o, u, h⟩
  · exact Or.inl h
  · exact Or.inr ⟨o, u, e _ _ h⟩
theorem Sy.kp {K : PySem.W.Frag} {H H' : Hp} {h l : Addr} (y : Sy K H) (A : Hand H h l) (k : Kp h l H H') : Sy K H' := by
  rcases y with y | ⟨o, u, y⟩
  · exact Or.inl y
  · obtain ⟨n, m⟩ := A.off y (fun _ z => by cases z)
    exact Or.inr ⟨o, u, k _ _ n m y⟩
section
variable {X : Cx} {pins : List (Addr × Obj)} {σ : L2.St} {H : Hp} {s : Shared}
theorem Sy.ne (I : Inv X pins σ H s) (y : Sy X.K H) {a : Addr} {o : HO} (h : H a = some o) (no : ∀ ob u, o ≠ .frz ob u) : a ≠ sysModules := by
  intro e
  subst e
  rcases y with ⟨ob, y⟩ | ⟨ob, u, y⟩
  · have := (I.bs _ _ (I.mod.kin _ _ y)).2
    rw [h] at this
    cases this
  · rw [h] at y
    cases y
    exact no _ _ rfl
mutual
theorem Dy.reads (I : Inv X pins σ H s) (y : Sy X.K H) : ∀ (d : PyData) (v : V) (u : Value), Dy X.K H v d → RelV v u → ∃ as, Reads s.heap u d as ∧ sysModules ∉ as
  | .none, _, _, h, r => by
    cases h
    cases r
    exact ⟨_, .none, by simp⟩
  | .bool b, _, _, h, r => by
    cases h
    cases r
    exact ⟨_, .bool b, by simp⟩
  | .int i, _, _, h, r => by
    cases h
    obtain ⟨t, rfl⟩ := r
    exact ⟨_, .int i t, by simp⟩
  | .str x, _, _, h, r => by
    cases h
    obtain ⟨t, rfl⟩ := r
    exact ⟨_, .str x t, by simp⟩
  | .list ds, _, _, h, r => by
    cases h with
    | lst hs ha =>
      cases r
      have ne := Sy.ne I y hs (fun _ _ z => by cases z)
      obtain ⟨its, rv, ⟨o, n, ho, hc, _, hd⟩, _⟩ := I.list (sq_of hs)
      obtain ⟨as, hr, hn⟩ := Dy.readsAll I y ds _ its ha rv
      exact ⟨_, .list ho hc hd hr, by simp only [List.mem_cons, not_or]; exact ⟨fun z => ne z.symm, hn⟩⟩
  | .tuple ds, _, _, h, r => by
    cases h with
    | tup hs ha =>
      cases r
      obtain ⟨its, rv, ⟨o, ho, hc, n, hd⟩, _⟩ := I.tuple hs
      obtain ⟨as, hr, hn⟩ := Dy.readsAll I y ds _ its ha rv
      exact ⟨_, .tuple ho hc hd hr, hn⟩
  | .dict [(.str z, d)], _, _, h, r => by
    cases h with
    | dc1 hd hv =>
      cases r
      obtain ⟨_, low, vs, rel, o, es, ep, ho, hex, hdt, hks, hp, _⟩ := dk_of I.hok hd
      have ne : ¬ sysModules = _ := fun z => (beq_eq_false_iff_ne.mp low) z.symm
      obtain ⟨q, rfl, hq1, hq2⟩ : ∃ q : Key × Value, vs = [q] ∧ (Sum.inr z : Key) = q.1 ∧ RelV _ q.2 := by
        cases rel with
        | cons r t =>
          cases t
          exact ⟨_, rfl, r.1, r.2⟩
      obtain ⟨en, he, hk, hval⟩ : ∃ en : DictEntry, es.toList = [en] ∧ (mixKind X.prog X.w).is q.1 en.key = true ∧ en.val = q.2 := pairs_one hp
      have hkey : ∃ t, en.key = .str z t := by
        rw [← hq1] at hk
        exact key_str hk
      obtain ⟨t, hkey⟩ := hkey
      obtain ⟨as, rd, hn⟩ := Dy.reads I y d _ _ hv (by rw [← hval] at hq2; exact hq2)
      have rk : Reads s.heap en.key (.str z) [] := by
        rw [hkey]
        exact .str z t
      refine ⟨_, .dict (kvs := [(.str z, d)]) ho hex.1 hdt (by rw [he]; exact .cons rk .nil) (by rw [he]; exact .cons rd .nil), ?_⟩
      simp only [List.append_nil, List.mem_append, List.mem_cons, List.not_mem_nil, or_false, not_or]
      exact ⟨ne, hn⟩
  | .dict [], _, _, h, r => by
    cases h with
    | dct hd =>
      cases r
      obtain ⟨_, low, vs, rel, o, es, ep, ho, hex, hdt, _, hp, _⟩ := dk_of I.hok hd
      cases rel
      have e0 : es.toList = [] := by
        cases h0 : es.toList with
        | nil => rfl
        | cons e r => rw [h0] at hp; cases hp
      have ne : ¬ sysModules = _ := fun z => (beq_eq_false_iff_ne.mp low) z.symm
      refine ⟨_, .dict (kvs := []) (as := []) (bs := []) ho hex.1 hdt (by rw [e0]; exact .nil) (by rw [e0]; exact .nil), ?_⟩
      simp only [List.append_nil, List.mem_singleton]
      exact ne
theorem Dy.readsAll (I : Inv X pins σ H s) (y : Sy X.K H) : ∀ (ds : List PyData) (vs : List V) (us : List Value), DyAll X.K H vs ds → Vals vs us → ∃ as, ReadsAll s.heap us ds as ∧ sysModules ∉ as
  | [], _, _, h, r => by
    cases h
    cases r
    exact ⟨_, .nil, by simp⟩
  | d :: ds, _, _, h, r => by
    cases h with
    | cons h1 h2 =>
      cases r with
      | cons r1 r2 =>
        obtain ⟨as, q1, n1⟩ := Dy.reads I y d _ _ h1 r1
        obtain ⟨bs, q2, n2⟩ := Dy.readsAll I y ds _ _ h2 r2
        exact ⟨_, .cons q1 q2, by rw [List.mem_append]; exact fun z => z.elim n1 n2⟩
end
end
/-- data whose text fits, dicts among them -/
def showsY (d : PyData) : Prop := d.showable = true ∧ d.depth ≤ 64 ∧ d.shown.length ≤ 10000000
def rReprY (K : PySem.W.Frag) : List V → Hp → VK → Prop := fun xs H Q => ∃ v d, xs = [v] ∧ Dy K H v d ∧ showsY d ∧ Sy K H ∧ Q (.str d.shown) H
def rStrY (K : PySem.W.Frag) : List V → Hp → VK → Prop := fun xs H Q => ∃ v d, xs = [v] ∧ Dy K H v d ∧ (∀ z, d ≠ .str z) ∧ showsY d ∧ Sy K H ∧ Q (.str d.shown) H
section
variable {X : Cx} {K : PySem.W.Frag}
theorem reprYK (h : X.K = K) (quiet : X.A.guards = some []) (room : X.A.units + 100 < cLine) : CallR X (.builtin "repr") (rReprY K) := by
  subst h
  intro pins s σ H xs us Q I rel told
  obtain ⟨v, d, rfl, data, ⟨s1, s3, s4⟩, y, q⟩ := told
  obtain ⟨u, rfl, ru⟩ := vals1 rel
  have s5 : d.shown.length ≤ sizeLine := Nat.le_trans s4 (by decide)
  have fin : ∀ (s' : Shared) (t : Tok), Inv X pins σ H s' → EP X pins σ Q (.str d.shown t) s' := fun s' t I' => ⟨.str d.shown, H, I', ⟨t, rfl⟩, q⟩
  have heap : ∀ a, u = .ref a → wpAny (model X.prog X.w) X.A (call (.builtin "repr") [u]) (EP X pins σ Q) X.xe s := by
    rintro a rfl
    obtain ⟨as, reads, no⟩ := Dy.reads I y d v _ data ru
    exact repr_of_reads' reads s1 (fun _ => no) quiet (by omega) (fun b o e => e) (fun h' u tk kept => fin _ _ (I.kept kept)) s5
  cases data with
  | non =>
    cases ru
    refine PySem.P.repr_of_none ?_
    have := fin { s with toks := s.toks + 1 } s.toks (I.tok _)
    simp only [PyData.shown] at this
    exact this
  | bl b =>
    cases ru
    refine PySem.P.repr_of_bool ?_
    have := fin { s with toks := s.toks + 1 } s.toks (I.tok _)
    simp only [PyData.shown] at this
    exact this
  | int i =>
    obtain ⟨t, rfl⟩ := ru
    refine PySem.P.repr_of_int (by simpa [PyData.showable] using s1) ?_
    have := fin { s with toks := s.toks + 1 } s.toks (I.tok _)
    simp only [PyData.shown] at this
    exact this
  | str x =>
    obtain ⟨t, rfl⟩ := ru
    simp only [PyData.shown] at s5
    refine PySem.P.repr_of_str ?_ s5
    have := fin { s with toks := s.toks + 1 } s.toks (I.tok _)
    simp only [PyData.shown] at this
    exact this
  | lst _ _ => cases ru; exact heap _ rfl
  | tup _ _ => cases ru; exact heap _ rfl
  | dct _ => cases ru; exact heap _ rfl
  | dc1 _ _ => cases ru; exact heap _ rfl
theorem strYK (h : X.K = K) (quiet : X.A.guards = some []) (room : X.A.units + 100 < cLine) : CallR X (.type "str") (rStrY K) := by
  subst h
  intro pins s σ H xs us Q I rel told
  obtain ⟨v, d, rfl, data, nostr, ⟨s1, s3, s4⟩, y, q⟩ := told
  obtain ⟨u, rfl, ru⟩ := vals1 rel
  have s5 : d.shown.length ≤ sizeLine := Nat.le_trans s4 (by decide)
  have fin : ∀ (s' : Shared) (t : Tok), Inv X pins σ H s' → EP X pins σ Q (.str d.shown t) s' := fun s' t I' => ⟨.str d.shown, H, I', ⟨t, rfl⟩, q⟩
  have heap : ∀ a, u = .ref a → wpAny (model X.prog X.w) X.A (call (.type "str") [u]) (EP X pins σ Q) X.xe s := by
    rintro a rfl
    obtain ⟨as, reads, no⟩ := Dy.reads I y d v _ data ru
    exact str_of_reads reads s1 (fun _ => no) quiet (by omega) (fun b o e => e) (fun h' u tk kept => fin _ _ (I.kept kept)) s5
  cases data with
  | non =>
    cases ru
    refine PySem.P.str_of_none ?_
    have := fin { s with toks := s.toks + 1 } s.toks (I.tok _)
    simp only [PyData.shown] at this
    exact this
  | bl b =>
    cases ru
    refine PySem.P.str_of_bool ?_
    have := fin { s with toks := s.toks + 1 } s.toks (I.tok _)
    simp only [PyData.shown] at this
    exact this
  | int i =>
    obtain ⟨t, rfl⟩ := ru
    refine PySem.P.str_of_int (by simpa [PyData.showable] using s1) ?_
    have := fin { s with toks := s.toks + 1 } s.toks (I.tok _)
    simp only [PyData.shown] at this
    exact this
  | str x => exact absurd rfl (nostr x)
  | lst _ _ => cases ru; exact heap _ rfl
  | tup _ _ => cases ru; exact heap _ rfl
  | dct _ => cases ru; exact heap _ rfl
  | dc1 _ _ => cases ru; exact heap _ rfl
end
end NL

/-! how much a datum weighs, which signs and numbers are in it; what is set aside of a heap -/
namespace NL
open PySem PySem.Spec PyProof.Rows L2 Evl
def asc (x : Str) : Prop := ∀ c ∈ x.cps.toList, c < 128
theorem asc_app {a b : Str} (ha : asc a) (hb : asc b) : asc (a ++ b) := fun c hc => by
  rcases mem_cps_append.mp hc with h | h
  · exact ha c h
  · exact hb c h
theorem asc_join {sep : Str} (hs : asc sep) {ts : List Str} (ht : ∀ t ∈ ts, asc t) : asc (Str.join sep ts) := fun c hc => by
  rcases (mem_join sep c ts).mp hc with ⟨t, h1, h2⟩ | ⟨_, h⟩
  · exact ht t h1 c h2
  · exact hs c h
theorem asc_lit {s : String} (h : s.toList.all (fun c => decide (c.toNat < 128)) = true) : asc (Str.ofString s) := fun c hc => by
  rw [signs_ofString] at hc
  obtain ⟨ch, h1, rfl⟩ := List.mem_map.mp hc
  exact of_decide_eq_true (List.all_eq_true.mp h ch h1)
theorem asc_int (i : Int) : asc (Str.ofString (toString i)) := fun c hc => by
  rw [signs_ofString] at hc
  obtain ⟨ch, h1, rfl⟩ := List.mem_map.mp hc
  rcases int_sign i ch h1 with h | h
  · have := digit_range h
    omega
  · subst h
    decide
theorem asc_from : ∀ {ts : List Str} {k : Nat} {acc : Str}, asc acc → (∀ t ∈ ts, asc t) → asc (textFrom k acc ts)
  | [], _, _, h, _ => h
  | t :: ts, k, acc, h, ht => by
    unfold textFrom
    refine asc_from (asc_app (asc_app h ?_) (ht t (List.mem_cons_self ..))) fun u hu => ht u (List.mem_cons_of_mem _ hu)
    split
    · exact asc_lit (by decide)
    · exact asc_lit (by decide)
theorem char_asc : ∀ q, q = 34 ∨ q = 39 → ∀ c, c < 128 → ∀ x ∈ Builtin.Str.reprChar q c, x < 128 := by
  have h : ((List.range 128).all fun c => ((Builtin.Str.reprChar 34 c).all fun x => decide (x < 128)) && ((Builtin.Str.reprChar 39 c).all fun x => decide (x < 128))) = true := by decide +kernel
  intro q hq c hc x hx
  have h1 := List.all_eq_true.mp h c (List.mem_range.mpr hc)
  rw [Bool.and_eq_true] at h1
  rcases hq with rfl | rfl
  · exact of_decide_eq_true (List.all_eq_true.mp h1.1 x hx)
  · exact of_decide_eq_true (List.all_eq_true.mp h1.2 x hx)
theorem up_asc : ∀ c, c < 128 → ∀ x ∈ Unicode.upperOf c, x < 128 := by
  have h : ((List.range 128).all fun c => (Unicode.upperOf c).all fun x => decide (x < 128)) = true := by decide +kernel
  intro c hc x hx
  exact of_decide_eq_true (List.all_eq_true.mp (List.all_eq_true.mp h c (List.mem_range.mpr hc)) x hx)
theorem asc_repr {x : Str} (h : asc x) : asc (reprText x) := by
  have hq : reprQuote x = 34 ∨ reprQuote x = 39 := by
    unfold reprQuote
    split
    · exact Or.inl rfl
    · exact Or.inr rfl
  have q1 : reprQuote x < 128 := by rcases hq with h | h <;> omega
  have all : ∀ (l : List Nat) (acc : Array Nat), (∀ c ∈ acc.toList, c < 128) → (∀ c ∈ l, c < 128) → ∀ c ∈ (l.foldl (fun out c => out ++ (Builtin.Str.reprChar (reprQuote x) c).toArray) acc).toList, c < 128 := by
    intro l
    induction l with
    | nil => intro acc ha _; exact ha
    | cons a l ih =>
      intro acc ha hl
      rw [List.foldl_cons]
      refine ih _ (fun c hc => ?_) fun c hc => hl c (List.mem_cons_of_mem _ hc)
      rw [Array.toList_append] at hc
      rcases List.mem_append.mp hc with hc | hc
      · exact ha c hc
      · exact char_asc _ hq a (hl a (List.mem_cons_self ..)) c (by simpa using hc)
  intro c hc
  unfold reprText at hc
  simp only [Array.toList_push, List.mem_append, List.mem_singleton] at hc
  rcases hc with hc | hc
  · rw [← Array.foldl_toList] at hc
    exact all _ #[reprQuote x] (fun c hc => by simp at hc; omega) h c hc
  · omega
theorem asc_upper {x : Str} (h : asc x) : asc (Txt.upper x) := by
  intro c hc
  unfold Txt.upper placed at hc
  simp only [Array.mem_toList_iff, Array.mem_flatten, Array.mem_mapIdx] at hc
  obtain ⟨a, ⟨i, hi, rfl⟩, hc⟩ := hc
  exact up_asc x.cps[i] (h _ (by simp)) c (by simpa using hc)
theorem asc_cut {x : Str} (h : asc x) {f : List Nat → List Nat} (hf : ∀ l, ∀ c ∈ f l, c ∈ l) : asc ⟨(f x.cps.toList).toArray⟩ := fun c hc => h c (hf _ c (by simpa using hc))
mutual
def wt : PyData → Nat
  | .str s => 10 * s.length + 10
  | .int _ => 60
  | .list ds => wts ds + 10
  | .tuple ds => wts ds + 10
  | .dict kvs => wtk kvs + 10
  | _ => 10
def wts : List PyData → Nat
  | [] => 0
  | d :: ds => wt d + wts ds
def wtk : List (PyData × PyData) → Nat
  | [] => 0
  | (k, v) :: r => wt k + wt v + wtk r
end
mutual
def okD (B : Nat) : PyData → Prop
  | .str s => asc s
  | .int i => i.natAbs ≤ B
  | .list ds => okDs B ds
  | .tuple ds => okDs B ds
  | .dict kvs => okK B kvs
  | _ => True
def okDs (B : Nat) : List PyData → Prop
  | [] => True
  | d :: ds => okD B d ∧ okDs B ds
def okK (B : Nat) : List (PyData × PyData) → Prop
  | [] => True
  | (k, v) :: r => okD B k ∧ okD B v ∧ okK B r
end
theorem list_len (ts : List Str) : (listText ts).length ≤ (ts.map fun t => t.length + 2).sum + 3 := by
  have all : ∀ (ts : List Str) (k : Nat) (acc : Str), (textFrom k acc ts).length ≤ acc.length + (ts.map fun t => t.length + 2).sum := by
    intro ts
    induction ts with
    | nil => intro k acc; simp [textFrom]
    | cons t ts ih =>
      intro k acc
      have h := ih (k + 1) (acc ++ (if k > 0 then ", " else "" : String) ++ t)
      have e : (Str.ofString (if k > 0 then ", " else "" : String)).length ≤ 2 := by
        split
        · decide +kernel
        · decide +kernel
      rw [Str.length_append, Str.length_append] at h
      simp only [textFrom, List.map_cons, List.sum_cons]
      omega
  unfold listText
  rw [Str.length_append]
  have h := all ts 0 "["
  have e1 : ("[" : Str).length = 1 := by decide +kernel
  have e2 : (Str.ofString "]").length = 1 := by decide +kernel
  omega
mutual
/-- what a datum's text has -/
theorem text_facts {B : Nat} (hB : B < 2 ^ 44) : ∀ d : PyData, okD B d → d.showable = true ∧ d.shown.length + 2 ≤ wt d ∧ asc d.shown
  | .none, _ => ⟨by simp [PyData.showable], by simp only [PyData.shown, wt]; decide +kernel, by simp only [PyData.shown]; exact asc_lit (by decide)⟩
  | .bool b, _ => by
    refine ⟨by simp [PyData.showable], ?_, ?_⟩
    · simp only [PyData.shown, wt]
      cases b
      · decide +kernel
      · decide +kernel
    · simp only [PyData.shown]
      cases b
      · exact asc_lit (by decide)
      · exact asc_lit (by decide)
  | .int i, h => by
    simp only [okD] at h
    have bl : i.natAbs.log2 < 44 := by
      by_cases h0 : i.natAbs = 0
      · rw [h0]; decide
      · exact (Nat.log2_lt h0).mpr (by omega)
    refine ⟨?_, ?_, ?_⟩
    · simp only [PyData.showable, decide_eq_true_eq]
      omega
    · simp only [PyData.shown, wt]
      have := int_text_length_le (a := i) (k := 44) (by decide) bl
      rw [PySem.ofString_length]
      omega
    · simp only [PyData.shown]
      exact asc_int i
  | .str s, h => by
    simp only [okD] at h
    refine ⟨by simp [PyData.showable], ?_, ?_⟩
    · simp only [PyData.shown, wt]
      have := StrLaws.reprText_len s (fun c hc => Nat.lt_trans (h c hc) (by decide))
      omega
    · simp only [PyData.shown]
      exact asc_repr h
  | .list ds, h => by
    simp only [okD] at h
    obtain ⟨i1, i2, i3⟩ := texts_facts hB ds h
    refine ⟨by simp only [PyData.showable]; exact i1, ?_, ?_⟩
    · simp only [PyData.shown, wt, shownAll_map]
      have := list_len (ds.map PyData.shown)
      omega
    · simp only [PyData.shown, shownAll_map]
      exact asc_app (asc_from (asc_lit (by decide)) i3) (asc_lit (by decide))
  | .tuple ds, h => by
    simp only [okD] at h
    obtain ⟨i1, i2, i3⟩ := texts_facts hB ds h
    refine ⟨by simp only [PyData.showable]; exact i1, ?_, ?_⟩
    · simp only [PyData.shown, wt, shownAll_map]
      have := tuple_len (ds.map PyData.shown)
      omega
    · simp only [PyData.shown, shownAll_map]
      refine asc_app (asc_app (asc_lit (by decide)) (asc_join (asc_lit (by decide)) i3)) ?_
      split
      · exact asc_lit (by decide)
      · exact asc_lit (by decide)
  | .dict kvs, h => by
    simp only [okD] at h
    obtain ⟨i1, i2, i3⟩ := textk_facts hB kvs h
    refine ⟨by simp only [PyData.showable]; exact i1, ?_, ?_⟩
    · simp only [PyData.shown, wt, dictText]
      rw [Str.length_append, Str.length_append]
      have e1 : ("{" : Str).length = 1 := by decide +kernel
      have e2 : (Str.ofString "}").length = 1 := by decide +kernel
      have e3 : (", " : Str).length = 2 := by decide +kernel
      have hj := join_len ", " (PyData.shownKv kvs)
      rw [e3] at hj
      omega
    · simp only [PyData.shown, dictText]
      exact asc_app (asc_app (asc_lit (by decide)) (asc_join (asc_lit (by decide)) i3)) (asc_lit (by decide))
theorem texts_facts {B : Nat} (hB : B < 2 ^ 44) : ∀ ds : List PyData, okDs B ds → PyData.showableAll ds = true ∧ ((ds.map PyData.shown).map fun t => t.length + 2).sum ≤ wts ds ∧ ∀ t ∈ ds.map PyData.shown, asc t
  | [], _ => by simp [PyData.showableAll, wts]
  | d :: ds, h => by
    simp only [okDs] at h
    obtain ⟨i1, i2, i3⟩ := text_facts hB d h.1
    obtain ⟨j1, j2, j3⟩ := texts_facts hB ds h.2
    refine ⟨by simp only [PyData.showableAll, i1, j1]; rfl, ?_, ?_⟩
    · simp only [List.map_cons, List.sum_cons, wts]
      omega
    · intro t ht
      rcases List.mem_cons.mp ht with rfl | ht
      · exact i3
      · exact j3 t ht
theorem textk_facts {B : Nat} (hB : B < 2 ^ 44) : ∀ kvs : List (PyData × PyData), okK B kvs → PyData.showableKv kvs = true ∧ ((PyData.shownKv kvs).map fun t => t.length + 2).sum ≤ wtk kvs ∧ ∀ t ∈ PyData.shownKv kvs, asc t
  | [], _ => by simp [PyData.showableKv, PyData.shownKv, wtk]
  | (a, b) :: r, h => by
    simp only [okK] at h
    obtain ⟨i1, i2, i3⟩ := text_facts hB a h.1
    obtain ⟨j1, j2, j3⟩ := text_facts hB b h.2.1
    obtain ⟨k1, k2, k3⟩ := textk_facts hB r h.2.2
    have e2 : (Str.ofString ": ").length = 2 := by decide +kernel
    refine ⟨by simp only [PyData.showableKv, i1, j1, k1]; rfl, ?_, ?_⟩
    · simp only [PyData.shownKv, List.map_cons, List.sum_cons, wtk, Str.length_append]
      omega
    · intro t ht
      simp only [PyData.shownKv] at ht
      rcases List.mem_cons.mp ht with rfl | ht
      · exact asc_app (asc_app i3 (asc_lit (by decide))) j3
      · exact k3 t ht
end
theorem shows_of {B W D : Nat} {d : PyData} (hB : B < 2 ^ 44) (ok : okD B d) (hw : wt d ≤ W) (hd : d.depth ≤ D) (hW : W ≤ 10000000) (hD : D ≤ 64) : showsY d := by
  obtain ⟨i1, i2, _⟩ := text_facts hB d ok
  exact ⟨i1, by omega, by omega⟩
mutual
theorem ok_up {B C : Nat} (h : B ≤ C) : ∀ d : PyData, okD B d → okD C d
  | .none, _ => by simp [okD]
  | .bool b, _ => by simp [okD]
  | .int i, k => by simp only [okD] at k ⊢; omega
  | .str s, k => by simp only [okD] at k ⊢; exact k
  | .list ds, k => by simp only [okD] at k ⊢; exact oks_up h ds k
  | .tuple ds, k => by simp only [okD] at k ⊢; exact oks_up h ds k
  | .dict kvs, k => by simp only [okD] at k ⊢; exact okk_up h kvs k
theorem oks_up {B C : Nat} (h : B ≤ C) : ∀ ds : List PyData, okDs B ds → okDs C ds
  | [], _ => by simp [okDs]
  | d :: ds, k => by simp only [okDs] at k ⊢; exact ⟨ok_up h d k.1, oks_up h ds k.2⟩
theorem okk_up {B C : Nat} (h : B ≤ C) : ∀ kvs : List (PyData × PyData), okK B kvs → okK C kvs
  | [], _ => by simp [okK]
  | (a, b) :: r, k => by simp only [okK] at k ⊢; exact ⟨ok_up h a k.1, ok_up h b k.2.1, okk_up h r k.2.2⟩
end
mutual
theorem nodes_wt : ∀ d : PyData, 10 * nodes d ≤ wt d
  | .none => by simp [nodes, wt]
  | .bool b => by simp [nodes, wt]
  | .int i => by simp [nodes, wt]
  | .str s => by simp only [nodes, wt]; omega
  | .list ds => by have := nodess_wt ds; simp only [nodes, wt]; omega
  | .tuple ds => by have := nodess_wt ds; simp only [nodes, wt]; omega
  | .dict kvs => by simp only [nodes, wt]; omega
theorem nodess_wt : ∀ ds : List PyData, 10 * nodess ds ≤ wts ds
  | [] => by simp [nodess, wts]
  | d :: ds => by have := nodes_wt d; have := nodess_wt ds; simp only [nodess, wts]; omega
end
mutual
theorem shorts_wt {W : Nat} (hW : W ≤ 10000000) : ∀ d : PyData, wt d ≤ W → shorts d
  | .none, _ => by simp [shorts]
  | .bool b, _ => by simp [shorts]
  | .int i, _ => by simp [shorts]
  | .str s, h => by simp only [wt] at h; simp only [shorts]; omega
  | .list ds, h => by simp only [wt] at h; simp only [shorts]; exact shortss_wt hW ds (by omega)
  | .tuple ds, h => by simp only [wt] at h; simp only [shorts]; exact shortss_wt hW ds (by omega)
  | .dict kvs, _ => by simp [shorts]
theorem shortss_wt {W : Nat} (hW : W ≤ 10000000) : ∀ ds : List PyData, wts ds ≤ W → shortss ds
  | [], _ => by simp [shortss]
  | d :: ds, h => by simp only [wts] at h; simp only [shortss]; exact ⟨shorts_wt hW d (by omega), shortss_wt hW ds (by omega)⟩
end
theorem len_wts : ∀ ds : List PyData, 10 * ds.length ≤ wts ds
  | [] => by simp
  | d :: ds => by
    have := len_wts ds
    have := nodes_wt d
    have : 1 ≤ nodes d := by cases d <;> simp [nodes]
    simp only [List.length_cons, wts]
    omega
end NL

/-! some datum: a value of which it is known how much it weighs, how deep it is, what signs and numbers it has; terms that make such ones while a hand draws -/
namespace NL
open PySem PySem.Spec PyProof.Rows L2 Evl
def aside (H : Hp) (S : List Addr) : Hp := fun a => if a ∈ S then none else H a
theorem aside_at {H : Hp} {S : List Addr} {a : Addr} (h : a ∉ S) : aside H S a = H a := if_neg h
theorem aside_in {H : Hp} {S : List Addr} {a : Addr} (h : a ∈ S) : aside H S a = none := if_pos h
theorem aside_sub (H : Hp) (S : List Addr) : Ex (aside H S) H := fun a o e => by
  by_cases h : a ∈ S
  · rw [aside_in h] at e
    cases e
  · rw [aside_at h] at e
    exact e
theorem aside_ex {H H' : Hp} {S : List Addr} (k : ∀ a o, a ∉ S → H a = some o → H' a = some o) : Ex (aside H S) (aside H' S) := fun a o e => by
  by_cases h : a ∈ S
  · rw [aside_in h] at e
    cases e
  · rw [aside_at h] at e ⊢
    exact k a o h e
theorem aside_kp {H H' : Hp} {S : List Addr} {h l : Addr} (h1 : h ∈ S) (h2 : l ∈ S) (k : Kp h l H H') : Ex (aside H S) (aside H' S) := aside_ex fun a o hn e => k a o (fun z => hn (z ▸ h1)) (fun z => hn (z ▸ h2)) e
theorem aside_e {H H' : Hp} {S : List Addr} (k : Ex H H') : Ex (aside H S) (aside H' S) := aside_ex fun a o _ e => k a o e
theorem aside_less {H : Hp} {S : List Addr} {p : Addr} : Ex (aside H (p :: S)) (aside H S) := fun a o e => by
  by_cases h : a ∈ p :: S
  · rw [aside_in h] at e
    cases e
  · rw [aside_at h] at e
    rw [aside_at (fun z => h (List.mem_cons_of_mem _ z))]
    exact e
theorem aside_more {H H' : Hp} {S : List Addr} {p : Addr} (n : H p = none) (k : Ex H H') : Ex (aside H S) (aside H' (p :: S)) := fun a o e => by
  by_cases h : a ∈ S
  · rw [aside_in h] at e
    cases e
  · rw [aside_at h] at e
    rw [aside_at (fun z => by
      rcases List.mem_cons.mp z with z | z
      · subst z
        rw [n] at e
        cases e
      · exact h z)]
    exact k _ _ e
/-! ### a datum, and several -/
def G (K : PySem.W.Frag) (H : Hp) (v : V) (W N D B : Nat) : Prop := ∃ d, Dy K H v d ∧ wt d ≤ W ∧ nodes d ≤ N ∧ d.depth ≤ D ∧ okD B d
def GL (K : PySem.W.Frag) (H : Hp) (xs : List V) (W N D B : Nat) : Prop := ∃ ds, DyAll K H xs ds ∧ wts ds ≤ W ∧ nodess ds ≤ N ∧ PyData.depthAll ds ≤ D ∧ okDs B ds
section
variable {K : PySem.W.Frag} {H H' : Hp} {v : V} {xs ys : List V} {W N D B W' N' D' B' : Nat}
theorem G.mono (g : G K H v W N D B) (e : Ex H H') : G K H' v W N D B := by
  obtain ⟨d, h, r⟩ := g
  exact ⟨d, dy_mono e h, r⟩
theorem G.up (g : G K H v W N D B) (hW : W ≤ W') (hN : N ≤ N') (hD : D ≤ D') (hB : B ≤ B') : G K H v W' N' D' B' := by
  obtain ⟨d, h, h1, hn, h2, h3⟩ := g
  exact ⟨d, h, by omega, by omega, by omega, ok_up hB d h3⟩
theorem GL.mono (g : GL K H xs W N D B) (e : Ex H H') : GL K H' xs W N D B := by
  obtain ⟨d, h, r⟩ := g
  exact ⟨d, dya_mono e h, r⟩
theorem GL.up (g : GL K H xs W N D B) (hW : W ≤ W') (hN : N ≤ N') (hD : D ≤ D') (hB : B ≤ B') : GL K H xs W' N' D' B' := by
  obtain ⟨d, h, h1, hn, h2, h3⟩ := g
  exact ⟨d, h, by omega, by omega, by omega, oks_up hB d h3⟩
theorem GL.nil : GL K H [] W N D B := ⟨[], .nil, by simp [wts], by simp [nodess], by simp [PyData.depthAll], by simp [okDs]⟩
theorem GL.cons (a : G K H v W N D B) (b : GL K H xs W' N' D B) : GL K H (v :: xs) (W + W') (N + N') D B := by
  obtain ⟨d, h, h1, hn, h2, h3⟩ := a
  obtain ⟨ds, k, k1, kn, k2, k3⟩ := b
  exact ⟨d :: ds, .cons h k, by simp only [wts]; omega, by simp only [nodess]; omega, by simp only [PyData.depthAll]; omega, by simp only [okDs]; exact ⟨h3, k3⟩⟩
theorem dya_app : ∀ {xs ys : List V} {ds es : List PyData}, DyAll K H xs ds → DyAll K H ys es → DyAll K H (xs ++ ys) (ds ++ es)
  | _, _, _, _, .nil, h => h
  | _, _, _, _, .cons a b, h => .cons a (dya_app b h)
theorem wts_app : ∀ (ds es : List PyData), wts (ds ++ es) = wts ds + wts es
  | [], es => by simp [wts]
  | d :: ds, es => by simp only [List.cons_append, wts, wts_app ds es]; omega
theorem nds_app : ∀ (ds es : List PyData), nodess (ds ++ es) = nodess ds + nodess es
  | [], es => by simp [nodess]
  | d :: ds, es => by simp only [List.cons_append, nodess, nds_app ds es]; omega
theorem dep_app : ∀ (ds es : List PyData), PyData.depthAll (ds ++ es) = max (PyData.depthAll ds) (PyData.depthAll es)
  | [], es => by simp [PyData.depthAll]
  | d :: ds, es => by simp only [List.cons_append, PyData.depthAll, dep_app ds es]; omega
theorem okDs_app : ∀ (ds es : List PyData), okDs B (ds ++ es) ↔ okDs B ds ∧ okDs B es
  | [], es => by simp [okDs]
  | d :: ds, es => by simp only [List.cons_append, okDs, okDs_app ds es, and_assoc]
theorem GL.app (a : GL K H xs W N D B) (b : GL K H ys W' N' D B) : GL K H (xs ++ ys) (W + W') (N + N') D B := by
  obtain ⟨ds, h, h1, hn, h2, h3⟩ := a
  obtain ⟨es, k, k1, kn, k2, k3⟩ := b
  exact ⟨ds ++ es, dya_app h k, by rw [wts_app]; omega, by rw [nds_app]; omega, by rw [dep_app]; omega, (okDs_app ds es).mpr ⟨h3, k3⟩⟩
theorem dya_split : ∀ {xs ys : List V} {ds : List PyData}, DyAll K H (xs ++ ys) ds → ∃ a b, ds = a ++ b ∧ DyAll K H xs a ∧ DyAll K H ys b
  | [], ys, ds, h => ⟨[], ds, rfl, .nil, h⟩
  | x :: xs, ys, _, .cons h t => by
    obtain ⟨a, b, rfl, h1, h2⟩ := dya_split t
    exact ⟨_ :: a, b, rfl, .cons h h1, h2⟩
theorem GL.left (g : GL K H (xs ++ ys) W N D B) : GL K H xs W N D B := by
  obtain ⟨ds, h, h1, hn, h2, h3⟩ := g
  obtain ⟨a, b, rfl, k1, k2⟩ := dya_split h
  rw [wts_app] at h1
  rw [nds_app] at hn
  rw [dep_app] at h2
  exact ⟨a, k1, by omega, by omega, by omega, ((okDs_app a b).mp h3).1⟩
theorem GL.right (g : GL K H (xs ++ ys) W N D B) : GL K H ys W N D B := by
  obtain ⟨ds, h, h1, hn, h2, h3⟩ := g
  obtain ⟨a, b, rfl, k1, k2⟩ := dya_split h
  rw [wts_app] at h1
  rw [nds_app] at hn
  rw [dep_app] at h2
  exact ⟨b, k2, by omega, by omega, by omega, ((okDs_app a b).mp h3).2⟩
theorem GL.take (g : GL K H xs W N D B) (n : Nat) : GL K H (xs.take n) W N D B := GL.left (ys := xs.drop n) (by rw [List.take_append_drop]; exact g)
theorem GL.drop (g : GL K H xs W N D B) (n : Nat) : GL K H (xs.drop n) W N D B := GL.right (xs := xs.take n) (by rw [List.take_append_drop]; exact g)
theorem GL.cut (g : GL K H xs W N D B) (lo hi : Option Int) : GL K H (cutV xs lo hi) W N D B := by
  unfold cutV
  exact (g.drop _).take _
theorem GL.rev (g : GL K H xs W N D B) : GL K H xs.reverse W N D B := by
  obtain ⟨ds, h, h1, hn, h2, h3⟩ := g
  suffices h : ∀ {xs : List V} {ds : List PyData}, DyAll K H xs ds → ∃ es, DyAll K H xs.reverse es ∧ wts es = wts ds ∧ nodess es = nodess ds ∧ PyData.depthAll es = PyData.depthAll ds ∧ (okDs B ds → okDs B es) by
    obtain ⟨es, k, k1, kn, k2, k3⟩ := h ‹_›
    exact ⟨es, k, by omega, by omega, by omega, k3 h3⟩
  intro xs
  induction xs with
  | nil => intro ds h; cases h; exact ⟨[], .nil, rfl, rfl, rfl, id⟩
  | cons x xs ih =>
    intro ds h
    cases h with
    | cons a b =>
      rename_i d ds
      obtain ⟨es, k, k1, kn, k2, k3⟩ := ih b
      refine ⟨es ++ [d], by rw [List.reverse_cons]; exact dya_app k (.cons a .nil), ?_, ?_, ?_, fun o => ?_⟩
      · rw [wts_app, k1]
        simp only [wts]
        omega
      · rw [nds_app, kn]
        simp only [nodess]
        omega
      · rw [dep_app, k2]
        simp only [PyData.depthAll]
        omega
      · simp only [okDs] at o
        exact (okDs_app es [d]).mpr ⟨k3 o.2, by simp only [okDs]; exact ⟨o.1, trivial⟩⟩
theorem GL.get (g : GL K H xs W N D B) (h : v ∈ xs) : G K H v W N D B := by
  obtain ⟨a, b, rfl⟩ := List.append_of_mem h
  obtain ⟨ds, h, h1, hn, h2, h3⟩ := g.right (xs := a)
  cases h with
  | cons d r =>
    simp only [wts] at h1
    simp only [nodess] at hn
    simp only [PyData.depthAll] at h2
    simp only [okDs] at h3
    exact ⟨_, d, by omega, by omega, by omega, h3.1⟩
theorem GL.len (g : GL K H xs W N D B) : 10 * xs.length ≤ W := by
  obtain ⟨ds, h, h1, _⟩ := g
  have := len_wts ds
  have e : xs.length = ds.length := dxa_len (dya_dx h)
  omega
theorem GL.lenN (g : GL K H xs W N D B) : xs.length ≤ N := by
  obtain ⟨ds, h, _, hn, _⟩ := g
  have e : xs.length = ds.length := dxa_len (dya_dx h)
  have : ∀ ds : List PyData, ds.length ≤ nodess ds := by
    intro ds
    induction ds with
    | nil => simp
    | cons d ds ih =>
      have : 1 ≤ nodes d := by cases d <;> simp [nodes]
      simp only [List.length_cons, nodess]
      omega
  have := this ds
  omega
theorem G.tup {a : Addr} (hs : SqT K H a xs) (g : GL K H xs W N D B) : G K H (.ref a) (W + 10) (N + 1) (D + 1) B := by
  obtain ⟨ds, h, h1, hn, h2, h3⟩ := g
  exact ⟨.tuple ds, .tup hs h, by simp only [wt]; omega, by simp only [nodes]; omega, by simp only [PyData.depth]; omega, by simp only [okD]; exact h3⟩
theorem G.lst {a : Addr} (hs : H a = some (.lst xs)) (g : GL K H xs W N D B) : G K H (.ref a) (W + 10) (N + 1) (D + 1) B := by
  obtain ⟨ds, h, h1, hn, h2, h3⟩ := g
  exact ⟨.list ds, .lst hs h, by simp only [wt]; omega, by simp only [nodes]; omega, by simp only [PyData.depth]; omega, by simp only [okD]; exact h3⟩
theorem G.non : G K H .non 10 1 0 B := ⟨_, .non, by simp [wt], by simp [nodes], by simp [PyData.depth], by simp [okD]⟩
theorem G.bl (b : Bool) : G K H (.bl b) 10 1 0 B := ⟨_, .bl b, by simp [wt], by simp [nodes], by simp [PyData.depth], by simp [okD]⟩
theorem G.int {i : Int} (h : i.natAbs ≤ B) : G K H (.int i) 60 1 0 B := ⟨_, .int i, by simp [wt], by simp [nodes], by simp [PyData.depth], by simp only [okD]; exact h⟩
theorem G.str {z : Str} {n : Nat} (hn : 10 * z.length + 10 ≤ n) (h : asc z) : G K H (.str z) n 1 0 B := ⟨_, .str z, by simp only [wt]; exact hn, by simp [nodes], by simp [PyData.depth], by simp only [okD]; exact h⟩
theorem G.dct {a : Addr} (h : H a = some (.dK [])) : G K H (.ref a) 10 1 1 B := ⟨_, .dct h, by simp [wt, wtk], by simp [nodes], by simp [PyData.depth, PyData.depthKv], by simp [okD, okK]⟩
theorem G.dc1 {a : Addr} {z : Str} (h : H a = some (.dK [(Sum.inr z, v)])) (az : asc z) (g : G K H v W N D B) : G K H (.ref a) (10 * z.length + 10 + W + 10) (N + 1) (D + 1) B := by
  obtain ⟨d, hd, h1, hn, h2, h3⟩ := g
  refine ⟨_, .dc1 h hd, by simp only [wt, wtk]; omega, by simp only [nodes]; omega, by simp only [PyData.depth, PyData.depthKv]; omega, by simp only [okD, okK]; exact ⟨az, h3, trivial⟩⟩
end
/-! ### terms that give some datum while a hand draws -/
theorem sqt_kp {K : PySem.W.Frag} {H H' : Hp} {h l p : Addr} {xs : List V} (k : Kp h l H H') (s : SqT K (aside H [h, l]) p xs) : SqT K (aside H' [h, l]) p xs := ex_t (aside_kp (by simp) (by simp) k) s
section
variable {K : PySem.W.Frag} {h l : Addr}
def EG (K : PySem.W.Frag) (h l : Addr) (W N D B : Nat) (te : TE) (σ : L2.St) (H : Hp) : Prop := ∀ H1, Kp h l H H1 → Hand H1 h l → ∀ Q : VK, (∀ v H2, Kp h l H1 H2 → Hand H2 h l → G K (aside H2 [h, l]) v W N D B → Q v H2) → te σ H1 Q
def AG (K : PySem.W.Frag) (h l : Addr) (n W N D B : Nat) (ta : TA) (σ : L2.St) (H : Hp) : Prop := ∀ H1, Kp h l H H1 → Hand H1 h l → ∀ Q : List V → Hp → Prop, (∀ vs H2, Kp h l H1 H2 → Hand H2 h l → vs.length = n → (∀ v ∈ vs, G K (aside H2 [h, l]) v W N D B) → Q vs H2) → ta σ H1 Q
def GT (K : PySem.W.Frag) (h l : Addr) (W N D B : Nat) (te : TE) (σ : L2.St) (H : Hp) : Prop := ∀ H1, Kp h l H H1 → Hand H1 h l → ∀ Q : VK, (∀ p xs H2, Kp h l H1 H2 → Hand H2 h l → SqT K (aside H2 [h, l]) p xs → GL K (aside H2 [h, l]) xs W N D B → Q (.ref p) H2) → te σ H1 Q
/-- to a new list of such ones -/
def NG (K : PySem.W.Frag) (h l : Addr) (n W N D B : Nat) (te : TE) (σ : L2.St) (H : Hp) : Prop := ∀ H1, Kp h l H H1 → Hand H1 h l → ∀ Q : VK, (∀ p vs H2, Kp h l H1 H2 → Hand H2 h l → p ≠ h → p ≠ l → H2 p = some (.lst vs) → vs.length = n → (∀ v ∈ vs, G K (aside H2 [h, l]) v W N D B) → Q (.ref p) H2) → te σ H1 Q
/-- to this value, whatever is drawn -/
def EK (h l : Addr) (v : V) (te : TE) (σ : L2.St) (H : Hp) : Prop := ∀ H1, Kp h l H H1 → Hand H1 h l → ∀ Q : VK, (∀ H2, Kp h l H1 H2 → Hand H2 h l → Q v H2) → te σ H1 Q
variable {σ : L2.St} {H : Hp} {te tb : TE} {ta : TA} {W N D B W' N' D' B' n m : Nat}
theorem g_kp {H1 H2 : Hp} {v : V} (g : G K (aside H1 [h, l]) v W N D B) (k : Kp h l H1 H2) : G K (aside H2 [h, l]) v W N D B := g.mono (aside_kp (by simp) (by simp) k)
theorem gl_kp {H1 H2 : Hp} {xs : List V} (g : GL K (aside H1 [h, l]) xs W N D B) (k : Kp h l H1 H2) : GL K (aside H2 [h, l]) xs W N D B := g.mono (aside_kp (by simp) (by simp) k)
theorem off_hl {p : Addr} (h1 : p ≠ h) (h2 : p ≠ l) : p ∉ [h, l] := by
  simp only [List.mem_cons, List.not_mem_nil, or_false, not_or]
  exact ⟨h1, h2⟩
theorem EG.up (g : EG K h l W N D B te σ H) (hW : W ≤ W') (hN : N ≤ N') (hD : D ≤ D') (hB : B ≤ B') : EG K h l W' N' D' B' te σ H := fun H1 k A Q q => g H1 k A Q fun v H2 k2 A2 g2 => q v H2 k2 A2 (g2.up hW hN hD hB)
theorem GT.up (g : GT K h l W N D B te σ H) (hW : W ≤ W') (hN : N ≤ N') (hD : D ≤ D') (hB : B ≤ B') : GT K h l W' N' D' B' te σ H := fun H1 k A Q q => g H1 k A Q fun p xs H2 k2 A2 s g2 => q p xs H2 k2 A2 s (g2.up hW hN hD hB)
theorem ek_c {v : V} : EK h l v (tC v) σ H := fun H1 _ A Q q => q H1 (Kp.refl h l H1) A
theorem ek_var {i : Nat} {v : V} (e : σ[i]? = some (some v)) : EK h l v (tVar i) σ H := fun H1 _ A Q q => ⟨v, e, q H1 (Kp.refl h l H1) A⟩
theorem ek_I0 {g : Int → Int → V} {i j : Int} (ha : EK h l (.int i) te σ H) (hb : EK h l (.int j) tb σ H) : EK h l (g i j) (tOp (rI0 g) te tb) σ H := fun H1 k A Q q =>
  ha H1 k A _ fun H2 k2 A2 => hb H2 (k.trans k2) A2 _ fun H3 k3 A3 => ⟨i, j, rfl, rfl, q H3 (k2.trans k3) A3⟩
theorem eg_ek {v : V} (e : EK h l v te σ H) (g : ∀ H, G K H v W N D B) : EG K h l W N D B te σ H := fun H1 k A Q q => e H1 k A Q fun H2 k2 A2 => q v H2 k2 A2 (g _)
theorem eg_c {v : V} (g : ∀ H, G K H v W N D B) : EG K h l W N D B (tC v) σ H := eg_ek ek_c g
theorem eg_var {i : Nat} {v : V} (e : σ[i]? = some (some v)) (g : G K (aside H [h, l]) v W N D B) : EG K h l W N D B (tVar i) σ H := fun H1 k A Q q => ⟨v, e, q v H1 (Kp.refl h l H1) A (g_kp g k)⟩
theorem ag_nil : AG K h l 0 W N D B tNil σ H := fun H1 k A Q q => q [] H1 (Kp.refl h l H1) A rfl (fun v z => by cases z)
theorem ag_cons (g : EG K h l W N D B te σ H) (r : AG K h l n W N D B ta σ H) : AG K h l (n + 1) W N D B (tCons te ta) σ H := fun H1 k A Q q =>
  g H1 k A _ fun v H2 k2 A2 g2 => r H2 (k.trans k2) A2 _ fun vs H3 k3 A3 hl hv => q (v :: vs) H3 (k2.trans k3) A3 (by rw [List.length_cons, hl]) fun u hu => by
    rcases List.mem_cons.mp hu with rfl | hu
    · exact g_kp g2 k3
    · exact hv u hu
theorem gl_all {H : Hp} : ∀ {vs : List V}, (∀ v ∈ vs, G K H v W N D B) → GL K H vs (vs.length * W) (vs.length * N) D B
  | [], _ => GL.nil
  | v :: vs, g => by
    have := GL.cons (g v (List.mem_cons_self ..)) (gl_all (vs := vs) fun u hu => g u (List.mem_cons_of_mem _ hu))
    refine this.up ?_ ?_ (Nat.le_refl _) (Nat.le_refl _)
    · rw [List.length_cons, Nat.succ_mul]
      omega
    · rw [List.length_cons, Nat.succ_mul]
      omega
theorem new_kp {H1 : Hp} {p : Addr} {o : HO} (n : H1 p = none) : Kp h l H1 (upd H1 p o) := Kp.ex (Ex.new n)
theorem tg_new (g : AG K h l n W N D B ta σ H) (hn : n ≤ 1000) : GT K h l (n * W) (n * N) D B (tTup ta) σ H := fun H1 k A Q q =>
  g H1 k A _ fun vs H2 k2 A2 hl hv => ⟨sz_of (by omega), fun p hp => by
    obtain ⟨n1, n2⟩ := A2.fresh hp
    refine q p vs _ (k2.trans (new_kp hp)) (A2.new hp) (st_of (by rw [aside_at (off_hl n1 n2)]; exact upd_same)) ?_
    rw [← hl]
    exact gl_kp (gl_all hv) (new_kp hp)⟩
theorem eg_tg (g : GT K h l W N D B te σ H) : EG K h l (W + 10) (N + 1) (D + 1) B te σ H := fun H1 k A Q q => g H1 k A Q fun p xs H2 k2 A2 s g2 => q _ H2 k2 A2 (G.tup s g2)
theorem tg_var {i : Nat} {p : Addr} {xs : List V} (e : σ[i]? = some (some (.ref p))) (s : SqT K (aside H [h, l]) p xs) (g : GL K (aside H [h, l]) xs W N D B) : GT K h l W N D B (tVar i) σ H := fun H1 k A Q q => ⟨_, e, q p xs H1 (Kp.refl h l H1) A (sqt_kp k s) (gl_kp g k)⟩
theorem tg_cat (ga : GT K h l W N D B te σ H) (gb : GT K h l W' N' D B tb σ H) (hz : W + W' ≤ 1000000 ∨ N + N' ≤ 100000) : GT K h l (W + W') (N + N') D B (tOp (rCatA K) te tb) σ H := fun H1 k A Q q =>
  ga H1 k A _ fun p xs H2 k2 A2 s2 g2 => gb H2 (k.trans k2) A2 _ fun p' ys H3 k3 A3 s3 g3 => by
    have s2' := sqt_kp k3 s2
    have g2' := gl_kp g2 k3
    have l2 := g2'.len
    have l3 := g3.len
    have m2 := g2'.lenN
    have m3 := g3.lenN
    refine ⟨p, p', xs, ys, rfl, rfl, ex_t (aside_sub _ _) s2', ex_t (aside_sub _ _) s3, sz_of (by omega), fun z => ?_, fun _ z => ?_, fun _ _ r hr => ?_⟩
    · exact q p' ys H3 (k2.trans k3) A3 s3 (g3.up (by omega) (by omega) (Nat.le_refl _) (Nat.le_refl _))
    · exact q p xs H3 (k2.trans k3) A3 s2' (g2'.up (by omega) (by omega) (Nat.le_refl _) (Nat.le_refl _))
    · obtain ⟨n1, n2⟩ := A3.fresh hr
      exact q r _ _ ((k2.trans k3).trans (new_kp hr)) (A3.new hr) (st_of (by rw [aside_at (off_hl n1 n2)]; exact upd_same)) (gl_kp (g2'.app g3) (new_kp hr))
/-- a part of a slice -/
def PK (h l : Addr) (o : Option Int) (to : TO) (σ : L2.St) (H : Hp) : Prop := ∀ H1, Kp h l H H1 → Hand H1 h l → ∀ Q : Option Int → Hp → Prop, (∀ H2, Kp h l H1 H2 → Hand H2 h l → Q o H2) → to σ H1 Q
theorem pk_no : PK h l none tNoPart σ H := fun H1 _ A Q q => q H1 (Kp.refl h l H1) A
theorem pk_so {i : Int} (e : EK h l (.int i) te σ H) : PK h l (some i) (tPart te) σ H := fun H1 k A Q q => e H1 k A _ fun H2 k2 A2 => ⟨i, rfl, q H2 k2 A2⟩
theorem tg_sl {lo hi : Option Int} {tl th : TO} (g : GT K h l W N D B te σ H) (hl : PK h l lo tl σ H) (hh : PK h l hi th σ H) : GT K h l W N D B (tSl (rSlA K) te tl th) σ H := fun H1 k A Q q =>
  g H1 k A _ fun p xs H2 k2 A2 s2 g2 => hl H2 (k.trans k2) A2 _ fun H3 k3 A3 => hh H3 ((k.trans k2).trans k3) A3 _ fun H4 k4 A4 => by
    have s4 := sqt_kp (k3.trans k4) s2
    have g4 := gl_kp g2 (k3.trans k4)
    refine ⟨p, xs, rfl, ex_t (aside_sub _ _) s4, fun _ => q p xs H4 ((k2.trans k3).trans k4) A4 s4 g4, fun _ r hr => ?_⟩
    obtain ⟨n1, n2⟩ := A4.fresh hr
    exact q r _ _ (((k2.trans k3).trans k4).trans (new_kp hr)) (A4.new hr) (st_of (by rw [aside_at (off_hl n1 n2)]; exact upd_same)) (gl_kp (g4.cut lo hi) (new_kp hr))
theorem tg_rev (g : GT K h l W N D B te σ H) : GT K h l W N D B (tRevT K te) σ H := fun H1 k A Q q =>
  g H1 k A _ fun p xs H2 k2 A2 s2 g2 => ⟨p, xs, rfl, ex_t (aside_sub _ _) s2, fun r hr => by
    obtain ⟨n1, n2⟩ := A2.fresh hr
    exact q r _ _ (k2.trans (new_kp hr)) (A2.new hr) (st_of (by rw [aside_at (off_hl n1 n2)]; exact upd_same)) (gl_kp g2.rev (new_kp hr))⟩
def rListT (K : PySem.W.Frag) : List V → Hp → VK → Prop := fun xs H Q => ∃ p ys, xs = [.ref p] ∧ (SqL K H p ys ∨ SqT K H p ys) ∧ ∀ l, H l = none → Q (.ref l) (upd H l (.lst ys))
theorem listTK {X : Cx} (h : X.K = K) : CallR X (.type "list") (rListT K) := by subst h; exact call_list_of
theorem eg_listT (g : GT K h l W N D B te σ H) : EG K h l (W + 10) (N + 1) (D + 1) B (tCB (rListT K) (tCons te tNil)) σ H := fun H1 k A Q q =>
  g H1 k A _ fun p xs H2 k2 A2 s2 g2 => ⟨p, xs, rfl, Or.inr (ex_t (aside_sub _ _) s2), fun r hr => by
    obtain ⟨n1, n2⟩ := A2.fresh hr
    exact q _ _ (k2.trans (new_kp hr)) (A2.new hr) (G.lst (by rw [aside_at (off_hl n1 n2)]; exact upd_same) (gl_kp g2 (new_kp hr)))⟩
theorem eg_lst (g : AG K h l n W N D B ta σ H) (hn : n ≤ 1000) : EG K h l (n * W + 10) (n * N + 1) (D + 1) B (tLst ta) σ H := fun H1 k A Q q =>
  g H1 k A _ fun vs H2 k2 A2 hl hv => ⟨sz_of (by omega), fun p hp => by
    obtain ⟨n1, n2⟩ := A2.fresh hp
    refine q _ _ (k2.trans (new_kp hp)) (A2.new hp) (G.lst (by rw [aside_at (off_hl n1 n2)]; exact upd_same) ?_)
    rw [← hl]
    exact gl_kp (gl_all hv) (new_kp hp)⟩
theorem eg_dnew : EG K h l 10 1 1 B tDNewK σ H := fun H1 k A Q q p hp => by
  obtain ⟨n1, n2⟩ := A.fresh hp
  exact q _ _ (new_kp hp) (A.new hp) (G.dct (by rw [aside_at (off_hl n1 n2)]; exact upd_same))
theorem ng_lst (g : AG K h l n W N D B ta σ H) (hn : n ≤ 1000) : NG K h l n W N D B (tLst ta) σ H := fun H1 k A Q q =>
  g H1 k A _ fun vs H2 k2 A2 hl hv => ⟨sz_of (by omega), fun p hp => by
    obtain ⟨n1, n2⟩ := A2.fresh hp
    exact q p vs _ (k2.trans (new_kp hp)) (A2.new hp) n1 n2 upd_same hl fun v z => g_kp (hv v z) (new_kp hp)⟩
theorem ng_var {i : Nat} {p : Addr} {vs : List V} (e : σ[i]? = some (some (.ref p))) (n1 : p ≠ h) (n2 : p ≠ l) (hp : H p = some (.lst vs)) (hl : vs.length = n) (g : ∀ v ∈ vs, G K (aside H [h, l]) v W N D B) : NG K h l n W N D B (tVar i) σ H := fun H1 k A Q q =>
  ⟨_, e, q p vs H1 (Kp.refl h l H1) A n1 n2 (k _ _ n1 n2 hp) hl fun v z => g_kp (g v z) k⟩
theorem ng_cat (ga : NG K h l n W N D B te σ H) (gb : NG K h l m W N D B tb σ H) (hz : n + m ≤ 1000) : NG K h l (n + m) W N D B (tOp rCat te tb) σ H := fun H1 k A Q q =>
  ga H1 k A _ fun p vs H2 k2 A2 n1 n2 h2 l2 g2 => gb H2 (k.trans k2) A2 _ fun p' us H3 k3 A3 m1 m2 h3 l3 g3 => ⟨p, p', vs, us, rfl, rfl, k3 _ _ n1 n2 h2, h3, sz_of (by omega), fun r hr => by
    obtain ⟨o1, o2⟩ := A3.fresh hr
    refine q r _ _ ((k2.trans k3).trans (new_kp hr)) (A3.new hr) o1 o2 upd_same (by rw [List.length_append]; omega) fun v z => ?_
    rcases List.mem_append.mp z with z | z
    · exact g_kp (g_kp (g2 v z) k3) (new_kp hr)
    · exact g_kp (g3 v z) (new_kp hr)⟩
theorem eg_ix {i : Nat} {r : Int} (g : NG K h l n W N D B te σ H) (e : σ[i]? = some (some (.int r))) (r0 : 0 ≤ r) (r1 : r < n) : EG K h l W N D B (tOp (rIxL K) te (tVar i)) σ H := fun H1 k A Q q =>
  g H1 k A _ fun p vs H2 k2 A2 n1 n2 h2 l2 g2 => by
    have hi : r.toNat < vs.length := by omega
    refine ⟨.int r, e, p, vs, r, vs[r.toNat], rfl, rfl, sq_of h2, ?_, q _ H2 k2 A2 (g2 _ (List.getElem_mem hi))⟩
    unfold atI ixN
    rw [if_pos r0, if_pos (by omega)]
    simp [hi]
/-- one text behind another -/
theorem eg_cats {a b : Str} (ha : EK h l (.str a) te σ H) (hb : EK h l (.str b) tb σ H) (hz : a.length + b.length ≤ 1000000) (aa : asc a) (ab : asc b) (hW : 10 * (a.length + b.length) + 10 ≤ W) : EG K h l W 1 0 B (tOp (fun x y H Q => ∃ i j, x = V.str i ∧ y = V.str j ∧ i.length + j.length ≤ sizeLine ∧ Q (.str (i ++ j)) H) te tb) σ H := fun H1 k A Q q =>
  ha H1 k A _ fun H2 k2 A2 => hb H2 (k.trans k2) A2 _ fun H3 k3 A3 => ⟨a, b, rfl, rfl, Nat.le_trans hz (by decide), q _ H3 (k2.trans k3) A3 (G.str (by rw [Str.length_append]; exact hW) (asc_app aa ab))⟩
end
end NL

/-! truths among numbers: True + 1, True - 1, 0 - True -/
namespace NL
open PySem PySem.Spec PyProof.Rows L2 Evl
def numV : V → Option Int
  | .int i => some i
  | .bl b => some (if b = true then 1 else 0)
  | _ => none
section
variable {P : Program} {w : World} {A : Around} {E : Value → Shared → Prop} {s : Shared} {p : Bool} {i : Int} {u : Tok} {Q : Value → Shared → Prop}
theorem made_add (p : Bool) (i : Int) (u : Tok) : Gives (Builtin.«int.__add__» ⟨[.bool p, .int i u], []⟩) (.int ((if p = true then (1 : Int) else 0) + i)) := by
  cases p <;> exact .of_eq rfl
theorem made_sub (p : Bool) (i : Int) (u : Tok) : Gives (Builtin.«int.__sub__» ⟨[.bool p, .int i u], []⟩) (.int ((if p = true then (1 : Int) else 0) - i)) := by
  cases p <;> exact .of_eq rfl
theorem made_bus (p : Bool) (i : Int) (u : Tok) : Gives (Builtin.«int.__sub__» ⟨[.int i u, .bool p], []⟩) (.int (i - (if p = true then (1 : Int) else 0))) := by
  cases p <;> exact .of_eq rfl
theorem add_bi (q : Q (.int ((if p = true then (1 : Int) else 0) + i) s.toks) { s with toks := s.toks + 1 }) : wpAny (model P w) A (binaryOp .Add (.bool p) (.int i u)) Q E s :=
  binaryOp_left_gives (op := .Add) (T := "bool") (U := "int") (by decide) (PySem.typeIs_bool s p) (fun s' => typeIs_int s' i u) PySem.F.fills_bool_add PySem.F.fills_int_add PySem.F.sub_int_bool PySem.F.slot_bool_add PySem.F.slot_int_radd PySem.F.entry_int_add (PySem.F.args_int_add_2 _ _) (made_add p i u) trivial q
theorem sub_bi (q : Q (.int ((if p = true then (1 : Int) else 0) - i) s.toks) { s with toks := s.toks + 1 }) : wpAny (model P w) A (binaryOp .Sub (.bool p) (.int i u)) Q E s :=
  binaryOp_left_gives (op := .Sub) (T := "bool") (U := "int") (by decide) (PySem.typeIs_bool s p) (fun s' => typeIs_int s' i u) PySem.F.fills_bool_sub PySem.F.fills_int_sub PySem.F.sub_int_bool PySem.F.slot_bool_sub PySem.F.slot_int_rsub PySem.F.entry_int_sub (PySem.F.args_int_sub_2 _ _) (made_sub p i u) trivial q
theorem refl_sub : reflectedDiffers (.type "int") (.type "bool") "sub" = pure false := by
  unfold reflectedDiffers
  change (typeLookup (.type "bool") (dunderR "sub") >>= fun rb => typeLookup (.type "int") (dunderR "sub") >>= fun ra => pure (rb.isSome && rb != ra)) = _
  rw [typeLookup_type, typeLookup_type, builtinLookup_eq_fast]
  kernel_rfl
theorem sub_ib (q : Q (.int (i - (if p = true then (1 : Int) else 0)) s.toks) { s with toks := s.toks + 1 }) : wpAny (model P w) A (binaryOp .Sub (.int i u) (.bool p)) Q E s :=
  binaryOp_sub_gives (op := .Sub) (T := "int") (U := "bool") (by decide) (typeIs_int s i u) (PySem.typeIs_bool s p) PySem.F.fills_int_sub PySem.F.fills_bool_sub isSubtype_bool_int refl_sub PySem.F.slot_int_sub PySem.F.entry_int_sub (PySem.F.args_int_sub_2 _ _) (made_bus p i u) trivial q
end
def rAddW : R2 := fun x y H Q => ∃ i j, numV x = some i ∧ y = .int j ∧ Q (.int (i + j)) H
def rSubW : R2 := fun x y H Q => ∃ i j, ((numV x = some i ∧ y = .int j) ∨ (x = .int i ∧ numV y = some j)) ∧ Q (.int (i - j)) H
section
variable {X : Cx}
theorem num_rel {x : V} {v : Value} {i : Int} (h : numV x = some i) (r : RelV x v) : (∃ t, x = .int i ∧ v = .int i t) ∨ ∃ b : Bool, x = .bl b ∧ v = .bool b ∧ i = if b = true then 1 else 0 := by
  cases x with
  | int j => cases h; obtain ⟨t, rfl⟩ := r; exact Or.inl ⟨t, rfl, rfl⟩
  | bl b => cases h; cases r; exact Or.inr ⟨b, rfl, rfl, rfl⟩
  | _ => cases h
theorem op_addW : OpR X (binaryOp .Add) rAddW := by
  intro pins s σ H x y v u Q I rx ry told
  obtain ⟨i, j, hx, rfl, q⟩ := told
  obtain ⟨t, rfl⟩ := ry
  rcases num_rel hx rx with ⟨t', rfl, rfl⟩ | ⟨b, rfl, rfl, rfl⟩
  · exact PySem.P.add_int ⟨.int (i + j), H, I.tok _, ⟨_, rfl⟩, q⟩
  · exact add_bi ⟨.int _, H, I.tok _, ⟨_, rfl⟩, q⟩
theorem op_subW : OpR X (binaryOp .Sub) rSubW := by
  intro pins s σ H x y v u Q I rx ry told
  obtain ⟨i, j, ⟨hx, rfl⟩ | ⟨rfl, hy⟩, q⟩ := told
  · obtain ⟨t, rfl⟩ := ry
    rcases num_rel hx rx with ⟨t', rfl, rfl⟩ | ⟨b, rfl, rfl, rfl⟩
    · exact PySem.P.sub_int ⟨.int (i - j), H, I.tok _, ⟨_, rfl⟩, q⟩
    · exact sub_bi ⟨.int _, H, I.tok _, ⟨_, rfl⟩, q⟩
  · obtain ⟨t, rfl⟩ := rx
    rcases num_rel hy ry with ⟨t', rfl, rfl⟩ | ⟨b, rfl, rfl, rfl⟩
    · exact PySem.P.sub_int ⟨.int (i - j), H, I.tok _, ⟨_, rfl⟩, q⟩
    · exact sub_ib ⟨.int _, H, I.tok _, ⟨_, rfl⟩, q⟩
end
/-! ### steps with tuples, in the heap beside the hand -/
section
variable {K : PySem.W.Frag} {h l a b : Addr} {xs ys : List V} {H : Hp} {Q : VK}
theorem cat_step (A : Hand H h l) (sa : SqT K (aside H [h, l]) a xs) (sb : SqT K (aside H [h, l]) b ys) (hz : xs.length + ys.length ≤ 100000) (q : ∀ r H', Ex H H' → SqT K (aside H' [h, l]) r (xs ++ ys) → Q (.ref r) H') : rCatA K (.ref a) (.ref b) H Q := by
  refine ⟨a, b, xs, ys, rfl, rfl, ex_t (aside_sub _ _) sa, ex_t (aside_sub _ _) sb, sz_of hz, fun z => ?_, fun _ z => ?_, fun _ _ r hr => ?_⟩
  · subst z
    exact q b H (Ex.refl H) sb
  · subst z
    rw [List.append_nil] at q
    exact q a H (Ex.refl H) sa
  · obtain ⟨n1, n2⟩ := A.fresh hr
    exact q r _ (Ex.new hr) (st_of (by rw [aside_at (off_hl n1 n2)]; exact upd_same))
theorem sl_step {lo hi : Option Int} (A : Hand H h l) (sa : SqT K (aside H [h, l]) a xs) (q : ∀ r H', Ex H H' → SqT K (aside H' [h, l]) r (cutV xs lo hi) → Q (.ref r) H') : rSlA K (.ref a) lo hi H Q := by
  refine ⟨a, xs, rfl, ex_t (aside_sub _ _) sa, fun z => ?_, fun _ r hr => ?_⟩
  · have e : cutV xs lo hi = xs := by
      unfold cutV
      rw [z.1, z.2]
      simp
    rw [e] at q
    exact q a H (Ex.refl H) sa
  · obtain ⟨n1, n2⟩ := A.fresh hr
    exact q r _ (Ex.new hr) (st_of (by rw [aside_at (off_hl n1 n2)]; exact upd_same))
theorem cut_to {i : Nat} (hi : i ≤ xs.length) : cutV xs none (some (i : Int)) = xs.take i := by
  unfold cutV
  rw [HT.sIx_none, HT.sIx_nat, Nat.min_eq_left hi]
  simp
theorem cut_from {i : Nat} : cutV xs (some (i : Int)) none = xs.drop i := by
  unfold cutV
  rw [HT.sIx_none, HT.sIx_nat]
  by_cases hi : i ≤ xs.length
  · rw [Nat.min_eq_left hi, List.take_of_length_le (by rw [List.length_drop]; omega)]
  · rw [Nat.min_eq_right (by omega), List.drop_of_length_le (Nat.le_refl _), List.drop_of_length_le (by omega)]
    simp
theorem at_nat {i : Nat} {v : V} (h : xs[i]? = some v) : atI xs (i : Int) = some v := by
  have hi := (List.getElem?_eq_some_iff.mp h).1
  unfold atI ixN
  rw [if_pos (by omega), if_pos (by omega)]
  simpa using h
end
/-! ### a place in a datum -/
def leads : PyData → List Nat → Prop
  | _, [] => True
  | .tuple ds, i :: is => match ds[i]? with
    | some e => leads e is
    | none => False
  | _, _ :: _ => False
theorem leads_cons {d : PyData} {i : Nat} {is : List Nat} (h : leads d (i :: is)) : ∃ ds e, d = .tuple ds ∧ ds[i]? = some e ∧ leads e is := by
  cases d with
  | tuple ds =>
    simp only [leads] at h
    cases he : ds[i]? with
    | none => rw [he] at h; exact h.elim
    | some e => rw [he] at h; exact ⟨ds, e, rfl, he, h⟩
  | _ => simp only [leads] at h
/-- what is led to -/
def there : PyData → List Nat → PyData
  | d, [] => d
  | .tuple ds, i :: is => there (ds.getD i .none) is
  | d, _ :: _ => d
theorem leads_app : ∀ {is : List Nat} {d : PyData} {i : Nat} {ds : List PyData}, leads d is → there d is = .tuple ds → i < ds.length → leads d (is ++ [i]) ∧ there d (is ++ [i]) = ds.getD i .none
  | [], d, i, ds, _, h, hi => by
    simp only [there] at h
    subst h
    simp only [List.nil_append, leads, there, List.getElem?_eq_getElem hi]
    exact ⟨trivial, trivial⟩
  | j :: is, d, i, ds, hl, h, hi => by
    obtain ⟨es, e, rfl, he, hl2⟩ := leads_cons hl
    simp only [there] at h
    have ee : es.getD j .none = e := by rw [List.getD_eq_getElem?_getD, he]; rfl
    rw [ee] at h
    obtain ⟨k1, k2⟩ := leads_app (is := is) hl2 h hi
    simp only [List.cons_append, leads, there, he, ee]
    exact ⟨k1, k2⟩
theorem dya_get {K : PySem.W.Frag} {H : Hp} : ∀ {vs : List V} {ds : List PyData} {i : Nat} {v : V}, DyAll K H vs ds → vs[i]? = some v → ∃ d, ds[i]? = some d ∧ Dy K H v d
  | _, _, _, _, .nil, e => by simp at e
  | _, _, 0, _, .cons r _, e => by simp at e; subst e; exact ⟨_, rfl, r⟩
  | _, _, i + 1, v, .cons _ t, e => by
    obtain ⟨d, h1, h2⟩ := dya_get (i := i) (v := v) t (by simpa using e)
    exact ⟨d, by simpa using h1, h2⟩
theorem dya_len {K : PySem.W.Frag} {H : Hp} {vs : List V} {ds : List PyData} (h : DyAll K H vs ds) : vs.length = ds.length := dxa_len (dya_dx h)
theorem dya_take {K : PySem.W.Frag} {H : Hp} : ∀ {vs : List V} {ds : List PyData} (i : Nat), DyAll K H vs ds → DyAll K H (vs.take i) (ds.take i)
  | _, _, 0, _ => by simp; exact .nil
  | _, _, i + 1, .nil => by simp; exact .nil
  | _, _, i + 1, .cons a b => by simp only [List.take_succ_cons]; exact .cons a (dya_take i b)
theorem dya_drop {K : PySem.W.Frag} {H : Hp} : ∀ {vs : List V} {ds : List PyData} (i : Nat), DyAll K H vs ds → DyAll K H (vs.drop i) (ds.drop i)
  | _, _, 0, h => by simpa using h
  | _, _, i + 1, .nil => by simp; exact .nil
  | _, _, i + 1, .cons a b => by simp only [List.drop_succ_cons]; exact dya_drop i b
theorem split_at {ds : List PyData} {i : Nat} {e : PyData} (h : ds[i]? = some e) : ds = ds.take i ++ e :: ds.drop (i + 1) := by
  obtain ⟨hi, he⟩ := List.getElem?_eq_some_iff.mp h
  rw [← he, List.getElem_cons_drop, List.take_append_drop]
theorem hu_e {k : Nat} {A : Around} (hr : Room k A) : A.units < cLine := by
  have := hr.un
  omega
theorem hu_e64 {k : Nat} {A : Around} (hr : Room k A) : A.units + 64 < cLine := by
  have := hr.un
  omega
end NL

/-! rows of a plan with the groups' bounds -/
namespace NL
open PySem L2 Evl
/-- name, a group's bound, the groups around it -/
abbrev Rb := Str × Option Int × List Str
def obV : Option Int → V
  | none => .non
  | some b => .int b
mutual
def Tr.rows : Tr → List Str → List Rb
  | .hand n, p => [(n, none, p)]
  | .grp n b ms, p => (n, some b, p) :: rowss ms (n :: p)
def rowss : List Tr → List Str → List Rb
  | [], _ => []
  | t :: ts, p => t.rows p ++ rowss ts p
end
def plainR (r : Rb) : Rw := (r.1, r.2.1.isSome, r.2.2)
mutual
theorem rows_told : ∀ (t : Tr) (p : List Str), (t.rows p).map plainR = t.told p
  | .hand n, p => by simp [Tr.rows, Tr.told, plainR]
  | .grp n b ms, p => by simp [Tr.rows, Tr.told, plainR, rowss_told ms]
theorem rowss_told : ∀ (ts : List Tr) (p : List Str), (rowss ts p).map plainR = tolds ts p
  | [], p => by simp [rowss, tolds]
  | t :: ts, p => by simp [rowss, tolds, rows_told t, rowss_told ts]
end
theorem rows_len (t : Tr) (p : List Str) : (t.rows p).length = t.size := by rw [← told_len t p, ← rows_told, List.length_map]
theorem rowss_len (ts : List Tr) (p : List Str) : (rowss ts p).length = sizes ts := by rw [← tolds_len ts p, ← rowss_told, List.length_map]
theorem rowss_take : ∀ (ts : List Tr) (i : Nat) (t : Tr) (p : List Str), ts[i]? = some t → rowss (ts.take (i + 1)) p = rowss (ts.take i) p ++ t.rows p
  | [], _, _, _, h => by simp at h
  | u :: ts, 0, t, p, h => by
    simp at h
    subst h
    simp [rowss]
  | u :: ts, i + 1, t, p, h => by
    have ih := rowss_take ts i t p (by simpa using h)
    simp only [List.take_succ_cons, rowss]
    rw [ih, List.append_assoc]
/-- a row with its bound, in the heap -/
def RowB (H : Hp) (v : V) (r : Rb) : Prop := ∃ a pa, v = .ref a ∧ H a = some (.tup [.str r.1, obV r.2.1, .ref pa]) ∧ H pa = some (.tup (r.2.2.map V.str))
inductive RowsB (H : Hp) : List V → List Rb → Prop
  | nil : RowsB H [] []
  | cons {v : V} {vs : List V} {r : Rb} {rs : List Rb} : RowB H v r → RowsB H vs rs → RowsB H (v :: vs) (r :: rs)
theorem RowB.tk {H H' : Hp} {v : V} {r : Rb} (k : TK H H') (h : RowB H v r) : RowB H' v r := by
  obtain ⟨a, pa, e, h1, h2⟩ := h
  exact ⟨a, pa, e, k _ _ h1, k _ _ h2⟩
theorem RowsB.tk {H H' : Hp} (k : TK H H') : ∀ {vs : List V} {rs : List Rb}, RowsB H vs rs → RowsB H' vs rs
  | _, _, .nil => .nil
  | _, _, .cons a b => .cons (a.tk k) (b.tk k)
theorem RowsB.app {H : Hp} : ∀ {vs us : List V} {rs qs : List Rb}, RowsB H vs rs → RowsB H us qs → RowsB H (vs ++ us) (rs ++ qs)
  | _, _, _, _, .nil, h => h
  | _, _, _, _, .cons a b, h => .cons a (b.app h)
theorem RowsB.one {H : Hp} {v : V} {r : Rb} (h : RowB H v r) : RowsB H [v] [r] := .cons h .nil
theorem RowsB.len {H : Hp} : ∀ {vs : List V} {rs : List Rb}, RowsB H vs rs → vs.length = rs.length
  | _, _, .nil => rfl
  | _, _, .cons _ t => by rw [List.length_cons, List.length_cons, t.len]
theorem RowsB.get {H : Hp} : ∀ {vs : List V} {rs : List Rb} {i : Nat} {v : V}, RowsB H vs rs → vs[i]? = some v → ∃ r, rs[i]? = some r ∧ RowB H v r
  | _, _, _, _, .nil, e => by simp at e
  | _, _, 0, _, .cons r _, e => by simp at e; subst e; exact ⟨_, rfl, r⟩
  | _, _, i + 1, v, .cons _ t, e => by
    obtain ⟨d, h1, h2⟩ := t.get (i := i) (v := v) (by simpa using e)
    exact ⟨d, by simpa using h1, h2⟩
def handsOf (t : Tr) : List Str := ((t.told []).filter fun r => !r.2.1).map (·.1)
def groupsOf (t : Tr) : List Str := ((t.told []).filter fun r => r.2.1).map (·.1)
theorem hands_rows (t : Tr) : handsOf t = ((t.rows []).filter fun r => !r.2.1.isSome).map (·.1) := by
  unfold handsOf
  rw [← rows_told, List.filter_map, List.map_map]
  rfl
theorem groups_rows (t : Tr) : groupsOf t = ((t.rows []).filter fun r => r.2.1.isSome).map (·.1) := by
  unfold groupsOf
  rw [← rows_told, List.filter_map, List.map_map]
  rfl
theorem find_rows {x : Str} : ∀ {rs : List Rb}, (rs.map plainR).find? (fun r => decide (r.1 = x)) = (rs.find? fun r => decide (r.1 = x)).map plainR
  | [] => rfl
  | r :: rs => by
    rw [List.map_cons, List.find?_cons, List.find?_cons]
    by_cases h : r.1 = x
    · have e : decide ((plainR r).1 = x) = true := decide_eq_true h
      rw [e, decide_eq_true h]
      rfl
    · have e : decide ((plainR r).1 = x) = false := decide_eq_false h
      rw [e, decide_eq_false h]
      exact find_rows
end NL

/-! trees: groups in them, paths, names told for others -/
namespace NL
open PySem L2 Evl
mutual
theorem told_under : ∀ (t : Tr) (q p : List Str), t.told (q ++ p) = (t.told q).map fun r => (r.1, r.2.1, r.2.2 ++ p)
  | .hand n, q, p => by simp [Tr.told]
  | .grp n b ms, q, p => by
    simp only [Tr.told, List.map_cons]
    rw [show n :: (q ++ p) = (n :: q) ++ p from rfl, tolds_under ms (n :: q) p]
theorem tolds_under : ∀ (ts : List Tr) (q p : List Str), tolds ts (q ++ p) = (tolds ts q).map fun r => (r.1, r.2.1, r.2.2 ++ p)
  | [], q, p => by simp [tolds]
  | t :: ts, q, p => by
    simp only [tolds, List.map_append]
    rw [told_under t, tolds_under ts]
end
mutual
def Tr.inn : Tr → List Str → List (Tr × List Str)
  | .hand _, _ => []
  | .grp n b ms, p => (.grp n b ms, p) :: inns ms (n :: p)
def inns : List Tr → List Str → List (Tr × List Str)
  | [], _ => []
  | t :: ts, p => t.inn p ++ inns ts p
end
mutual
theorem inn_in : ∀ (t : Tr) (p : List Str) (o : Tr) (q : List Str), (o, q) ∈ t.inn p → ∃ A B, t.told p = A ++ o.told q ++ B
  | .hand n, p, o, q, h => by simp [Tr.inn] at h
  | .grp n b ms, p, o, q, h => by
    simp only [Tr.inn, List.mem_cons, Prod.mk.injEq] at h
    rcases h with ⟨rfl, rfl⟩ | h
    · exact ⟨[], [], by simp⟩
    · obtain ⟨A, B, e⟩ := inns_in ms (n :: p) o q h
      exact ⟨(n, true, p) :: A, B, by simp [Tr.told, e]⟩
theorem inns_in : ∀ (ts : List Tr) (p : List Str) (o : Tr) (q : List Str), (o, q) ∈ inns ts p → ∃ A B, tolds ts p = A ++ o.told q ++ B
  | [], p, o, q, h => by simp [inns] at h
  | t :: ts, p, o, q, h => by
    simp only [inns, List.mem_append] at h
    rcases h with h | h
    · obtain ⟨A, B, e⟩ := inn_in t p o q h
      exact ⟨A, B ++ tolds ts p, by simp [tolds, e]⟩
    · obtain ⟨A, B, e⟩ := inns_in ts p o q h
      exact ⟨t.told p ++ A, B, by simp [tolds, e]⟩
end
mutual
theorem inn_ok : ∀ (t : Tr) (p : List Str) (o : Tr) (q : List Str), (o, q) ∈ t.inn p → t.ok → o.ok ∧ o.deep ≤ t.deep ∧ ∃ n b ms, o = .grp n b ms
  | .hand n, p, o, q, h, _ => by simp [Tr.inn] at h
  | .grp n b ms, p, o, q, h, ho => by
    simp only [Tr.inn, List.mem_cons, Prod.mk.injEq] at h
    rcases h with ⟨rfl, rfl⟩ | h
    · exact ⟨ho, Nat.le_refl _, _, _, _, rfl⟩
    · simp only [Tr.ok] at ho
      obtain ⟨h1, h2, h3⟩ := inns_ok ms (n :: p) o q h ho.2.2.2
      exact ⟨h1, by simp only [Tr.deep]; omega, h3⟩
theorem inns_ok : ∀ (ts : List Tr) (p : List Str) (o : Tr) (q : List Str), (o, q) ∈ inns ts p → oks ts → o.ok ∧ o.deep ≤ deeps ts ∧ ∃ n b ms, o = .grp n b ms
  | [], p, o, q, h, _ => by simp [inns] at h
  | t :: ts, p, o, q, h, ho => by
    simp only [inns, List.mem_append] at h
    simp only [oks] at ho
    simp only [deeps]
    rcases h with h | h
    · obtain ⟨h1, h2, h3⟩ := inn_ok t p o q h ho.1
      exact ⟨h1, by omega, h3⟩
    · obtain ⟨h1, h2, h3⟩ := inns_ok ts p o q h ho.2
      exact ⟨h1, by omega, h3⟩
end
mutual
theorem inn_len : ∀ (t : Tr) (p : List Str), (t.inn p).length ≤ t.size
  | .hand n, p => by simp [Tr.inn]
  | .grp n b ms, p => by
    have := inns_len ms (n :: p)
    simp only [Tr.inn, List.length_cons, Tr.size]
    omega
theorem inns_len : ∀ (ts : List Tr) (p : List Str), (inns ts p).length ≤ sizes ts
  | [], p => by simp [inns]
  | t :: ts, p => by
    have := inn_len t p
    have := inns_len ts p
    simp only [inns, List.length_append, sizes]
    omega
end
theorem inns_take : ∀ (ts : List Tr) (i : Nat) (t : Tr) (p : List Str), ts[i]? = some t → inns (ts.take (i + 1)) p = inns (ts.take i) p ++ t.inn p
  | [], _, _, _, h => by simp at h
  | u :: ts, 0, t, p, h => by
    simp at h
    subst h
    simp [inns]
  | u :: ts, i + 1, t, p, h => by
    have ih := inns_take ts i t p (by simpa using h)
    simp only [List.take_succ_cons, inns]
    rw [ih, List.append_assoc]
theorem tolds_app : ∀ (ts us : List Tr) (p : List Str), tolds (ts ++ us) p = tolds ts p ++ tolds us p
  | [], us, p => by simp [tolds]
  | t :: ts, us, p => by simp [tolds, tolds_app ts us p]
theorem find_rowN : ∀ {rs : List Rw} {r : Rw}, (rs.map (·.1)).Nodup → r ∈ rs → rs.find? (fun x => decide (x.1 = r.1)) = some r
  | [], _, _, h => by cases h
  | s :: rs, r, nd, h => by
    rw [List.map_cons, List.nodup_cons] at nd
    rw [List.find?_cons]
    rcases List.mem_cons.mp h with rfl | h
    · rw [decide_eq_true rfl]
    · have ne : s.1 ≠ r.1 := fun e => nd.1 (by rw [e]; exact List.mem_map.mpr ⟨r, h, rfl⟩)
      rw [decide_eq_false ne]
      exact find_rowN nd.2 h
theorem hands_under (o : Tr) (q : List Str) : ((o.told q).filter fun r => !r.2.1).map (·.1) = handsOf o := by
  have e := told_under o [] q
  rw [List.nil_append] at e
  rw [e]
  unfold handsOf
  rw [List.filter_map, List.map_map]
  rfl
theorem groups_under (o : Tr) (q : List Str) : ((o.told q).filter fun r => r.2.1).map (·.1) = groupsOf o := by
  have e := told_under o [] q
  rw [List.nil_append] at e
  rw [e]
  unfold groupsOf
  rw [List.filter_map, List.map_map]
  rfl
theorem nodup_sub {α : Type} {A X B l : List α} (h : l = A ++ X ++ B) (nd : l.Nodup) : X.Nodup := by
  subst h
  exact (List.nodup_append.mp (List.nodup_append.mp nd).1).2.1
theorem nms_sub {t o : Tr} {p q : List Str} {A B : List Rw} (h : t.told p = A ++ o.told q ++ B) : t.nms = A.map (·.1) ++ o.nms ++ B.map (·.1) := by
  rw [← told_nms t p, h, List.map_append, List.map_append, told_nms]
theorem hands_in (t : Tr) : ∀ x ∈ handsOf t, x ∈ t.nms := fun x hx => by
  unfold handsOf at hx
  obtain ⟨r, h1, rfl⟩ := List.mem_map.mp hx
  rw [← told_nms t []]
  exact List.mem_map.mpr ⟨r, (List.mem_filter.mp h1).1, rfl⟩
theorem groups_in (t : Tr) : ∀ x ∈ groupsOf t, x ∈ t.nms := fun x hx => by
  unfold groupsOf at hx
  obtain ⟨r, h1, rfl⟩ := List.mem_map.mp hx
  rw [← told_nms t []]
  exact List.mem_map.mpr ⟨r, (List.mem_filter.mp h1).1, rfl⟩
theorem part_nodup : ∀ {rs : List Rw}, (rs.map (·.1)).Nodup → (((rs.filter fun r => !r.2.1).map (·.1)) ++ ((rs.filter fun r => r.2.1).map (·.1))).Nodup
  | [], _ => by simp
  | r :: rs, nd => by
    rw [List.map_cons, List.nodup_cons] at nd
    have ih := part_nodup nd.2
    have out : ∀ f : Rw → Bool, r.1 ∉ (rs.filter f).map (·.1) := fun f h => by
      obtain ⟨s, h1, h2⟩ := List.mem_map.mp h
      exact nd.1 (List.mem_map.mpr ⟨s, (List.mem_filter.mp h1).1, h2⟩)
    cases hr : r.2.1 with
    | false =>
      simp only [List.filter_cons, hr, Bool.not_false, if_true, Bool.false_eq_true, if_false, List.map_cons, List.cons_append]
      refine List.nodup_cons.mpr ⟨fun h => ?_, ih⟩
      rcases List.mem_append.mp h with h | h
      · exact out _ h
      · exact out _ h
    | true =>
      simp only [List.filter_cons, hr, Bool.not_true, if_true, Bool.false_eq_true, if_false, List.map_cons]
      rw [List.nodup_append] at ih ⊢
      refine ⟨ih.1, List.nodup_cons.mpr ⟨out _, ih.2.1⟩, fun a ha b hb => ?_⟩
      rcases List.mem_cons.mp hb with rfl | hb
      · exact fun e => out _ (e ▸ ha)
      · exact ih.2.2 a ha b hb
theorem names_nodup {t : Tr} (h : t.nms.Nodup) : (handsOf t ++ groupsOf t).Nodup := part_nodup (by rw [told_nms]; exact h)
theorem part_len : ∀ rs : List Rw, ((rs.filter fun r => !r.2.1).map (·.1)).length + ((rs.filter fun r => r.2.1).map (·.1)).length = rs.length
  | [] => rfl
  | r :: rs => by
    have ih := part_len rs
    simp only [List.length_map] at ih ⊢
    cases hr : r.2.1 with
    | false => simp only [List.filter_cons, hr, Bool.not_false, if_true, Bool.false_eq_true, if_false, List.length_cons]; omega
    | true => simp only [List.filter_cons, hr, Bool.not_true, if_true, Bool.false_eq_true, if_false, List.length_cons]; omega
theorem names_len (t : Tr) : (handsOf t ++ groupsOf t).length = t.size := by
  rw [List.length_append]
  unfold handsOf groupsOf
  rw [part_len, told_len]
/-! ### each row's path ends at the whole -/
theorem tolds_end (ts : List Tr) (p : List Str) : ∀ r ∈ tolds ts p, ∃ q, r.2.2 = q ++ p := fun r h => by
  have e := tolds_under ts [] p
  rw [List.nil_append] at e
  rw [e] at h
  obtain ⟨s, _, rfl⟩ := List.mem_map.mp h
  exact ⟨_, rfl⟩
/-! ### names told for others -/
mutual
def Tr.ren (o w : Str) : Tr → Tr
  | .hand n => .hand (if n = o then w else n)
  | .grp n b ms => .grp (if n = o then w else n) b (rens o w ms)
def rens (o w : Str) : List Tr → List Tr
  | [] => []
  | t :: ts => t.ren o w :: rens o w ts
end
mutual
theorem ren_facts (o w : Str) : ∀ t : Tr, (t.ren o w).nms = t.nms.map (fun n => if n = o then w else n) ∧ (t.ren o w).size = t.size ∧ (t.ren o w).deep = t.deep ∧ (t.ok → (t.ren o w).ok)
  | .hand n => by simp [Tr.ren, Tr.nms, Tr.size, Tr.deep, Tr.ok]
  | .grp n b ms => by
    obtain ⟨h1, h2, h3, h4⟩ := rens_facts o w ms
    simp only [Tr.ren, Tr.nms, Tr.size, Tr.deep, Tr.ok, h1, h2, h3, List.map_cons]
    refine ⟨trivial, trivial, trivial, fun h => ⟨h.1, h.2.1, ?_, h4 h.2.2.2⟩⟩
    cases ms with
    | nil => exact absurd rfl h.2.2.1
    | cons m ms => simp [rens]
theorem rens_facts (o w : Str) : ∀ ts : List Tr, nmss (rens o w ts) = (nmss ts).map (fun n => if n = o then w else n) ∧ sizes (rens o w ts) = sizes ts ∧ deeps (rens o w ts) = deeps ts ∧ (oks ts → oks (rens o w ts))
  | [] => by simp [rens, nmss, sizes, deeps, oks]
  | t :: ts => by
    obtain ⟨h1, h2, h3, h4⟩ := ren_facts o w t
    obtain ⟨k1, k2, k3, k4⟩ := rens_facts o w ts
    simp only [rens, nmss, sizes, deeps, oks, h1, h2, h3, k1, k2, k3, List.map_append]
    exact ⟨trivial, trivial, trivial, fun h => ⟨h4 h.1, k4 h.2⟩⟩
end
theorem rens_take (o w : Str) : ∀ (ts : List Tr) (i : Nat) (t : Tr), ts[i]? = some t → rens o w (ts.take (i + 1)) = rens o w (ts.take i) ++ [t.ren o w]
  | [], _, _, h => by simp at h
  | u :: ts, 0, t, h => by
    simp at h
    subst h
    simp [rens]
  | u :: ts, i + 1, t, h => by
    have ih := rens_take o w ts i t (by simpa using h)
    simp only [List.take_succ_cons, rens]
    rw [ih]
    rfl
theorem rens_len (o w : Str) : ∀ ts : List Tr, (rens o w ts).length = ts.length
  | [] => rfl
  | t :: ts => by simp [rens, rens_len o w ts]
theorem map_dup {f : Str → Str} {a b : Str} : ∀ {l : List Str}, a ∈ l → b ∈ l → a ≠ b → f a = f b → ¬ (l.map f).Nodup
  | [], h, _, _, _ => by cases h
  | x :: l, ha, hb, ne, e => fun nd => by
    rw [List.map_cons, List.nodup_cons] at nd
    rcases List.mem_cons.mp ha with h1 | h1
    · rcases List.mem_cons.mp hb with h2 | h2
      · exact ne (h1.trans h2.symm)
      · exact nd.1 (by rw [← h1, e]; exact List.mem_map.mpr ⟨b, h2, rfl⟩)
    · rcases List.mem_cons.mp hb with h2 | h2
      · exact nd.1 (by rw [← h2, ← e]; exact List.mem_map.mpr ⟨a, h1, rfl⟩)
      · exact map_dup h1 h2 ne e nd.2
theorem map_inj {f : Str → Str} : ∀ {l : List Str}, (∀ a ∈ l, ∀ b ∈ l, f a = f b → a = b) → l.Nodup → (l.map f).Nodup
  | [], _, _ => by simp
  | x :: l, h, nd => by
    rw [List.nodup_cons] at nd
    rw [List.map_cons, List.nodup_cons]
    refine ⟨fun z => ?_, map_inj (fun a ha b hb => h a (List.mem_cons_of_mem _ ha) b (List.mem_cons_of_mem _ hb)) nd.2⟩
    obtain ⟨y, h1, h2⟩ := List.mem_map.mp z
    have := h y (List.mem_cons_of_mem _ h1) x (List.mem_cons_self ..) h2
    subst this
    exact nd.1 h1
theorem ren_out {o w : Str} {l : List Str} (hw : w ∉ l) (nd : l.Nodup) : (l.map fun n => if n = o then w else n).Nodup := by
  refine map_inj (fun a ha b hb e => ?_) nd
  by_cases h1 : a = o
  · by_cases h2 : b = o
    · rw [h1, h2]
    · rw [if_pos h1, if_neg h2] at e
      exact absurd (e ▸ hb) hw
  · by_cases h2 : b = o
    · rw [if_neg h1, if_pos h2] at e
      exact absurd (e ▸ ha) hw
    · rw [if_neg h1, if_neg h2] at e
      exact e
theorem ren_two {o w : Str} {l : List Str} (ho : o ∈ l) (hw : w ∈ l) (nd : l.Nodup) : (l.map fun n => if n = o then w else n).Nodup ↔ o = w := by
  constructor
  · intro h
    by_cases e : o = w
    · exact e
    · exact absurd h (map_dup (f := fun n => if n = o then w else n) ho hw e (by
        show (if o = o then w else o) = (if w = o then w else w)
        rw [if_pos rfl]
        split <;> rfl))
  · intro e
    subst e
    have : (l.map fun n => if n = o then o else n) = l := by
      have : (fun n : Str => if n = o then o else n) = id := by
        funext n
        by_cases h : n = o
        · rw [if_pos h, h]; rfl
        · rw [if_neg h]; rfl
      rw [this, List.map_id]
    rw [this]
    exact nd
/-! ### a tree is a plan where its names are unlike -/
theorem alpha_in (c : Nat) : c ∈ ("abcdefghijklmnopqrstuvwxyz" : Str).cps.toList ↔ 97 ≤ c ∧ c ≤ 122 := by
  have e : ("abcdefghijklmnopqrstuvwxyz" : Str).cps.toList = List.range' 97 26 := by decide +kernel
  rw [e, List.mem_range'_1]
  omega
theorem ok_nameB {s : Str} (h : nameOk s) : nameB s = true := by
  unfold nameB
  simp only [Bool.and_eq_true, decide_eq_true_eq, List.all_eq_true]
  exact ⟨⟨h.1, h.2.1⟩, fun c hc => (alpha_in c).mpr (h.2.2 c hc)⟩
mutual
theorem all_tree : ∀ t : Tr, t.ok → (∀ n ∈ t.nms, nameOk n) → allM t.dat = some t.nms
  | .hand n, _, h => by
    simp only [Tr.dat, Tr.nms, allM]
    rw [if_pos (ok_nameB (h n (by simp [Tr.nms])))]
  | .grp n b ms, ho, h => by
    simp only [Tr.ok] at ho
    have ih := alls_tree ms ho.2.2.2 (fun x hx => h x (by simp [Tr.nms, hx]))
    have hne : dats ms ≠ [] := by
      cases ms with
      | nil => exact absurd rfl ho.2.2.1
      | cons m ms => simp [dats]
    simp only [Tr.dat, Tr.nms, allM]
    rw [if_pos ⟨ho.1, hne, ok_nameB (h n (by simp [Tr.nms]))⟩, ih]
theorem alls_tree : ∀ ts : List Tr, oks ts → (∀ n ∈ nmss ts, nameOk n) → allMs (dats ts) = some (nmss ts)
  | [], _, _ => by simp [dats, allMs, nmss]
  | t :: ts, ho, h => by
    simp only [oks] at ho
    have h1 := all_tree t ho.1 (fun x hx => h x (by simp [nmss, hx]))
    have h2 := alls_tree ts ho.2 (fun x hx => h x (by simp [nmss, hx]))
    simp only [dats, allMs, nmss, h1, h2]
end
theorem plan_tree {n : Str} {b : Int} {ms : List Tr} (ho : (Tr.grp n b ms).ok) (h : ∀ x ∈ (Tr.grp n b ms).nms, nameOk x) : planB (Tr.grp n b ms).dat = decide (Tr.grp n b ms).nms.Nodup := by
  have e := all_tree _ ho h
  rw [plan_unique]
  have e2 : allG (Tr.grp n b ms).dat = some (Tr.grp n b ms).nms := by
    rw [← e]
    simp only [Tr.dat]
    rfl
  rw [e2]
  rfl
end NL

namespace NL
open PySem L2 Evl
/-! ### turns, and even plans, as trees -/
mutual
def Tr.hn : Tr → Nat
  | .hand _ => 1
  | .grp _ _ ms => hns ms
def hns : List Tr → Nat
  | [] => 0
  | t :: ts => t.hn + hns ts
end
mutual
theorem told_hn : ∀ (t : Tr) (p : List Str), ((t.told p).filter fun r => !r.2.1).length = t.hn
  | .hand n, p => by simp [Tr.told, Tr.hn]
  | .grp n b ms, p => by simp [Tr.told, Tr.hn, tolds_hn ms]
theorem tolds_hn : ∀ (ts : List Tr) (p : List Str), ((tolds ts p).filter fun r => !r.2.1).length = hns ts
  | [], p => by simp [tolds, hns]
  | t :: ts, p => by simp [tolds, hns, told_hn t, tolds_hn ts]
end
theorem hands_hn (t : Tr) : (handsOf t).length = t.hn := by
  unfold handsOf
  rw [List.length_map, told_hn]
mutual
def Tr.turn : Tr → Int
  | .hand _ => 1
  | .grp _ b ms => if hns ms = 1 then 1 else b * maxs ms
def maxs : List Tr → Int
  | [] => 0
  | t :: ts => max t.turn (maxs ts)
end
mutual
theorem turn_pos : ∀ t : Tr, t.ok → 1 ≤ t.turn
  | .hand _, _ => by simp [Tr.turn]
  | .grp n b ms, h => by
    simp only [Tr.ok] at h
    simp only [Tr.turn]
    split
    · decide
    · have := maxs_pos ms h.2.2.2 h.2.2.1
      have h1 : 1 * 1 ≤ b * maxs ms := Int.mul_le_mul h.1 this (by decide) (by omega)
      simpa using h1
theorem maxs_pos : ∀ ts : List Tr, oks ts → ts ≠ [] → 1 ≤ maxs ts
  | [], _, h => (h rfl).elim
  | t :: ts, h, _ => by
    have := turn_pos t h.1
    simp only [maxs]
    omega
end
theorem maxs_ge : ∀ {ts : List Tr}, ∀ t ∈ ts, t.turn ≤ maxs ts
  | u :: ts, t, h => by
    simp only [maxs]
    rcases List.mem_cons.mp h with rfl | h
    · omega
    · have := maxs_ge t h
      omega
theorem maxs_mem : ∀ {ts : List Tr}, oks ts → ts ≠ [] → ∃ t ∈ ts, t.turn = maxs ts
  | [t], h, _ => ⟨t, by simp, by
    have := turn_pos t h.1
    simp only [maxs]
    omega⟩
  | t :: u :: ts, h, _ => by
    obtain ⟨x, hx, e⟩ := maxs_mem (ts := u :: ts) h.2 (List.cons_ne_nil _ _)
    by_cases c : t.turn ≤ maxs (u :: ts)
    · refine ⟨x, List.mem_cons_of_mem _ hx, ?_⟩
      rw [e]
      simp only [maxs] at c ⊢
      omega
    · refine ⟨t, List.mem_cons_self .., ?_⟩
      simp only [maxs] at c ⊢
      omega
/-- all have one turn -/
def alike (ts : List Tr) : Bool := decide (∀ a ∈ ts.map Tr.turn, ∀ b ∈ ts.map Tr.turn, a = b)
mutual
def Tr.level : Tr → Bool
  | .hand _ => true
  | .grp _ _ ms => alike ms && levels ms
def levels : List Tr → Bool
  | [] => true
  | t :: ts => t.level && levels ts
end
theorem levels_all : ∀ ts : List Tr, levels ts = ts.all Tr.level
  | [] => rfl
  | t :: ts => by simp only [levels, List.all_cons, levels_all ts]
def turnsV (ts : List Tr) : List V := (ts.map Tr.turn).map V.int
section
variable {K : PySem.W.Frag} {σ : L2.St} {H : Hp} {ta : TE} {ns : List Int}
theorem maxK {X : Cx} (h : X.K = K) (hc : X.calm = true) : CallR X (.builtin "max") (rMax K) := by subst h; exact cr_max hc
theorem minK {X : Cx} (h : X.K = K) (hc : X.calm = true) : CallR X (.builtin "min") (rMin K) := by subst h; exact cr_min hc
theorem ev_maxN {m : Int} (h : EvL ta σ H (ns.map V.int)) (hm : m ∈ ns) (hle : ∀ y ∈ ns, y ≤ m) : Ev (tCB (rMax K) (tCons ta tNil)) σ H (.int m) := fun H1 e Q q =>
  h H1 e _ fun p H2 hp e2 h2 => ⟨p, ns, rfl, sq_of h2, List.length_pos_of_mem hm, fun x hx hx2 => by
    have : x = m := by
      have := hle x hx
      have := hx2 m hm
      omega
    rw [this]
    exact q H2 e2⟩
theorem ev_maxV {m : Int} {a : Addr} (h : Ev ta σ H (.ref a)) (ha : H a = some (.lst (ns.map V.int))) (hm : m ∈ ns) (hle : ∀ y ∈ ns, y ≤ m) : Ev (tCB (rMax K) (tCons ta tNil)) σ H (.int m) := fun H1 e Q q =>
  h H1 e _ fun H2 e2 => ⟨a, ns, rfl, sq_of ((e.trans e2) _ _ ha), List.length_pos_of_mem hm, fun x hx hx2 => by
    have : x = m := by
      have := hle x hx
      have := hx2 m hm
      omega
    rw [this]
    exact q H2 e2⟩
theorem ev_minV {m : Int} {a : Addr} (h : Ev ta σ H (.ref a)) (ha : H a = some (.lst (ns.map V.int))) (hm : m ∈ ns) (hle : ∀ y ∈ ns, m ≤ y) : Ev (tCB (rMin K) (tCons ta tNil)) σ H (.int m) := fun H1 e Q q =>
  h H1 e _ fun H2 e2 => ⟨a, ns, rfl, sq_of ((e.trans e2) _ _ ha), List.length_pos_of_mem hm, fun x hx hx2 => by
    have : x = m := by
      have := hle x hx
      have := hx2 m hm
      omega
    rw [this]
    exact q H2 e2⟩
end
theorem max_in {ts : List Tr} (h : oks ts) (hn : ts ≠ []) : maxs ts ∈ ts.map Tr.turn := by
  obtain ⟨t, ht, e⟩ := maxs_mem h hn
  exact List.mem_map.mpr ⟨t, ht, e⟩
theorem max_le {ts : List Tr} : ∀ y ∈ ts.map Tr.turn, y ≤ maxs ts := fun y hy => by
  obtain ⟨t, ht, rfl⟩ := List.mem_map.mp hy
  exact maxs_ge t ht
theorem least : ∀ {ns : List Int}, ns ≠ [] → ∃ m ∈ ns, ∀ y ∈ ns, m ≤ y
  | [n], _ => ⟨n, by simp, fun y hy => by rw [List.mem_singleton.mp hy]; exact Int.le_refl _⟩
  | n :: k :: ns, _ => by
    obtain ⟨m, hm, hl⟩ := least (ns := k :: ns) (List.cons_ne_nil _ _)
    by_cases c : n ≤ m
    · refine ⟨n, by simp, fun y hy => ?_⟩
      rcases List.mem_cons.mp hy with rfl | hy
      · exact Int.le_refl _
      · exact Int.le_trans c (hl y hy)
    · refine ⟨m, List.mem_cons_of_mem _ hm, fun y hy => ?_⟩
      rcases List.mem_cons.mp hy with rfl | hy
      · omega
      · exact hl y hy
theorem oks_get : ∀ {ts : List Tr} {i : Nat} {t : Tr}, oks ts → ts[i]? = some t → t.ok
  | t :: ts, 0, u, h, e => by cases e; exact h.1
  | t :: ts, i + 1, u, h, e => oks_get h.2 (by simpa using e)
theorem map_range {α : Type} (f : Tr → α) (ts : List Tr) : (List.range ts.length).map (fun i => f (ts.getD i (.hand ""))) = ts.map f := by
  apply List.ext_getElem
  · simp
  · intro i h1 h2
    have h3 : i < ts.length := by simpa using h2
    simp [List.getD_eq_getElem?_getD, h3]
end NL

/-! terms that tell some tuple of known things -/
namespace NL
open PySem L2 Evl
def EvS (K : PySem.W.Frag) (te : TE) (σ : L2.St) (H : Hp) (xs : List V) : Prop := ∀ H1, Ex H H1 → ∀ Q : VK, (∀ p H2, Ex H1 H2 → SqT K H2 p xs → Q (.ref p) H2) → te σ H1 Q
section
variable {K : PySem.W.Frag} {σ : L2.St} {H H' : Hp} {te ta tb : TE} {xs ys : List V}
theorem EvS.mono (e : Ex H H') (h : EvS K te σ H xs) : EvS K te σ H' xs := fun H1 a Q q => h H1 (e.trans a) Q q
theorem es_is (h : EvS K te σ H xs) (e : xs = ys) : EvS K te σ H ys := by
  subst e
  exact h
theorem es_ev {p : Addr} (h : Ev te σ H (.ref p)) (hs : SqT K H p xs) : EvS K te σ H xs := fun H1 e Q q => h H1 e _ fun H2 e2 => q p H2 e2 (ex_t (e.trans e2) hs)
theorem es_var {i : Nat} {p : Addr} (h : σ[i]? = some (some (.ref p))) (hs : SqT K H p xs) : EvS K (tVar i) σ H xs := es_ev (ev_var h) hs
theorem es_tup {tas : TA} (h : EvA tas σ H xs) (hl : xs.length ≤ 100000) : EvS K (tTup tas) σ H xs := fun H1 e Q q => h H1 e _ fun H2 e2 => ⟨sz_of hl, fun p hp => q p _ (e2.trans (Ex.new hp)) (st_of upd_same)⟩
theorem es_cat (ha : EvS K ta σ H xs) (hb : EvS K tb σ H ys) (hl : xs.length + ys.length ≤ 100000) : EvS K (tOp (rCatA K) ta tb) σ H (xs ++ ys) := fun H1 e Q q =>
  ha H1 e _ fun a H2 e2 sa => hb H2 (e.trans e2) _ fun b H3 e3 sb => by
    have sa3 := ex_t e3 sa
    refine ⟨a, b, xs, ys, rfl, rfl, sa3, sb, sz_of hl, fun z => ?_, fun _ z => ?_, fun _ _ p hp => ?_⟩
    · subst z
      exact q b H3 (e2.trans e3) sb
    · subst z
      exact q a H3 (e2.trans e3) (by rw [List.append_nil]; exact sa3)
    · exact q p _ ((e2.trans e3).trans (Ex.new hp)) (st_of upd_same)
theorem es_sl {tl th : TO} {lo hi : Option Int} (ha : EvS K te σ H xs) (h1 : EvO tl σ H lo) (h2 : EvO th σ H hi) : EvS K (tSl (rSlA K) te tl th) σ H (cutV xs lo hi) := fun H1 e Q q =>
  ha H1 e _ fun a H2 e2 sa => h1 H2 (e.trans e2) _ fun H3 e3 => h2 H3 ((e.trans e2).trans e3) _ fun H4 e4 => by
    have sa4 := ex_t (e3.trans e4) sa
    refine ⟨a, xs, rfl, sa4, fun z => ?_, fun _ p hp => ?_⟩
    · have ec : cutV xs lo hi = xs := by
        unfold cutV
        rw [z.1, z.2]
        simp
      rw [ec] at q
      exact q a H4 ((e2.trans e3).trans e4) sa4
    · exact q p _ (((e2.trans e3).trans e4).trans (Ex.new hp)) (st_of upd_same)
theorem ev_ixS {i : Int} {v : V} (ha : EvS K te σ H xs) (hb : Ev tb σ H (.int i)) (hi : atI xs i = some v) : Ev (tOp (rIxT K) te tb) σ H v := fun H1 e Q q =>
  ha H1 e _ fun a H2 e2 sa => hb H2 (e.trans e2) _ fun H3 e3 => ⟨a, xs, i, v, rfl, rfl, ex_t e3 sa, hi, q H3 (e2.trans e3)⟩
theorem ev_lenE (ha : EvS K te σ H xs) : Ev (tCB (rLenS K) (tCons te tNil)) σ H (.int (xs.length : Int)) := fun H1 e Q q =>
  ha H1 e _ fun a H2 e2 sa => ⟨a, xs, rfl, Or.inr sa, q H2 e2⟩
end
/-! ### tuples of names against one another -/
theorem eqv_strs : ∀ xs ys : List Str, PyData.eqvAll (xs.map PyData.str) (ys.map PyData.str) = decide (xs = ys)
  | [], [] => by simp [PyData.eqvAll]
  | [], y :: ys => by simp [PyData.eqvAll]
  | x :: xs, [] => by simp [PyData.eqvAll]
  | x :: xs, y :: ys => by
    simp only [List.map_cons, PyData.eqvAll, PyData.eqv, eqv_strs xs ys]
    rw [Bool.eq_iff_iff]
    simp
theorem shaped_strs {xs : List Str} (h : ∀ n ∈ xs, nameOk n) : SeqAt.shaped (.tuple (xs.map PyData.str)) = true := by
  obtain ⟨a, b⟩ := lay_strs h
  have c : PyData.canLay0 (.tuple (xs.map PyData.str)) = true := by
    simp only [PyData.canLay0]
    exact a
  have d : PyData.depth (.tuple (xs.map PyData.str)) ≤ 64 := by
    simp only [PyData.depth]
    omega
  unfold SeqAt.shaped
  rw [c, decide_eq_true d]
  rfl
section
variable {K : PySem.W.Frag} {σ : L2.St} {H : Hp} {te ta tb : TE} {xs ys : List Str}
theorem ev_eqS (ha : EvS K ta σ H (xs.map V.str)) (hb : EvS K tb σ H (ys.map V.str)) (hx : ∀ n ∈ xs, nameOk n) (hy : ∀ n ∈ ys, nameOk n) : Ev (tOp (rEqD K) ta tb) σ H (.bl (decide (xs = ys))) := fun H1 e Q q =>
  ha H1 e _ fun a H2 e2 sa => hb H2 (e.trans e2) _ fun b H3 e3 sb => by
    refine ⟨.tuple (xs.map PyData.str), .tuple (ys.map PyData.str), .tup (ex_t e3 sa) (dpa_strs xs), .tup sb (dpa_strs ys), shaped_strs hx, shaped_strs hy, ?_⟩
    have e4 : PyData.eqv (.tuple (xs.map PyData.str)) (.tuple (ys.map PyData.str)) = decide (xs = ys) := by
      simp only [PyData.eqv]
      exact eqv_strs xs ys
    rw [e4]
    exact q H3 (e2.trans e3)
theorem ev_neS (ha : EvS K ta σ H (xs.map V.str)) (hb : EvS K tb σ H (ys.map V.str)) (hx : ∀ n ∈ xs, nameOk n) (hy : ∀ n ∈ ys, nameOk n) : Ev (tOp (rNeD K) ta tb) σ H (.bl (!decide (xs = ys))) := fun H1 e Q q =>
  ha H1 e _ fun a H2 e2 sa => hb H2 (e.trans e2) _ fun b H3 e3 sb => by
    refine ⟨.tuple (xs.map PyData.str), .tuple (ys.map PyData.str), .tup (ex_t e3 sa) (dpa_strs xs), .tup sb (dpa_strs ys), shaped_strs hx, shaped_strs hy, ?_⟩
    have e4 : PyData.eqv (.tuple (xs.map PyData.str)) (.tuple (ys.map PyData.str)) = decide (xs = ys) := by
      simp only [PyData.eqv]
      exact eqv_strs xs ys
    rw [e4]
    exact q H3 (e2.trans e3)
end
section
variable {K : PySem.W.Frag} {σ : L2.St} {H : Hp} {te ta tb : TE} {xs : List V}
/-- a comprehension over some tuple of known things -/
theorem el_lcE {tl : TE} {tt : TT} {j : Nat} {vs : List Nat} (f : Nat → Bool) (g : Nat → V) (src : EvS K tl σ H xs) (few : xs.length ≤ 40000) (clean : ∀ x, wipe ((wipe σ vs).set j (some x)) vs = wipe σ vs)
    (test : ∀ (i : Nat) (x : V) H1, Ex H H1 → xs[i]? = some x → EvT tt ((wipe σ vs).set j (some x)) H1 (f i)) (give : ∀ (i : Nat) (x : V) H1, Ex H H1 → xs[i]? = some x → f i = true → Ev te ((wipe σ vs).set j (some x)) H1 (g i)) :
    EvL (tLc (iTup K tl) (gName j) tt te vs) σ H (given xs.length f g) := by
  intro H0 e0 Q next
  refine src H0 e0 _ fun a H1 e1 held => ?_
  have e01 : Ex H H1 := e0.trans e1
  refine ⟨a, rfl, ⟨xs, held⟩, fun made fresh => ?_⟩
  refine lc_tup (xs := xs) (Cw H1 f g made) ⟨fresh, Ex.new fresh, upd_same⟩ ?stays ?turn ?done
  case stays =>
    intro i H' _ inv
    exact ex_t inv.2.1 held
  case turn =>
    intro i x H' at_i inv
    have small : i < 50000 := by
      have := (List.getElem?_eq_some_iff.mp at_i).1
      omega
    exact ⟨clean x, cw_turn inv small (test i x H1 e01 at_i) (give i x H1 e01 at_i)⟩
  case done =>
    intro H' inv
    exact next made H' (fresh_back e1 inv.1) (e1.trans inv.2.1) inv.2.2
theorem q_asgS {i : Nat} {tz : TS} {D : Ends} (h : EvS K te σ H xs) (k : ∀ p H1, Ex H H1 → SqT K H1 p xs → tz D (σ.set i (some (.ref p))) H1) : tSeq (tAsg te (gName i)) tz D σ H := h H (Ex.refl H) _ fun p H1 e s => k p H1 e s
theorem q_forS {tl : TE} {j : Nat} {tu tz : TS} {D : Ends} (h : EvS K tl σ H xs) (Pv : Hp → Nat → L2.St → Hp → Prop) (h0 : ∀ H1, Ex H H1 → Pv H1 0 σ H1) (hl : ∀ H1 i σ' H', Pv H1 i σ' H' → Ex H1 H')
    (hs : ∀ H1 i x σ' H', Ex H H1 → xs[i]? = some x → Pv H1 i σ' H' → tu { D with nx := Pv H1 (i + 1), ct := Pv H1 (i + 1), bk := tz D } (σ'.set j (some x)) H') (hd : ∀ H1 σ' H', Ex H H1 → Pv H1 xs.length σ' H' → tz D σ' H') : tSeq (tFor (iTup K tl) (gName j) tu) tz D σ H := by
  refine h H (Ex.refl H) _ fun p H1 e sp => ?_
  exact ⟨p, rfl, ⟨xs, sp⟩, for_tup (Pv H1) (h0 H1 e) (fun i σ' H' _ hP => ex_t (hl H1 i σ' H' hP) sp) (fun i x σ' H' hx hP => hs H1 i x σ' H' e hx hP) (fun σ' H' hP => hd H1 σ' H' e hP)⟩
theorem ev_anyN {bs : List Bool} (ha : EvL ta σ H (bs.map V.bl)) : Ev (tCB (rAny K) (tCons ta tNil)) σ H (.bl (bs.any id)) := fun H1 e Q q =>
  ha H1 e _ fun p H2 _ e2 h2 => ⟨p, bs, rfl, sq_of h2, q H2 e2⟩
theorem anyK {X : Cx} (h : X.K = K) (hc : X.calm = true) : CallR X (.builtin "any") (rAny K) := by subst h; exact cr_any hc
end
theorem sqt_hand {K : PySem.W.Frag} {H H' : Hp} {h l a : Addr} {xs : List V} (A : Hand H h l) (k : Kp h l H H') (s : SqT K H a xs) : SqT K H' a xs := by
  rcases s with (s | ⟨o, s⟩) | s
  · obtain ⟨n, m⟩ := A.off s (fun _ z => by cases z)
    exact Or.inl (Or.inl (k a _ n m s))
  · obtain ⟨n, m⟩ := A.off s (fun _ z => by cases z)
    exact Or.inl (Or.inr ⟨o, k a _ n m s⟩)
  · exact Or.inr s
end NL

/-! plans as data that weigh so much -/
namespace NL
open PySem L2 Evl
section
variable {K : PySem.W.Frag}
mutual
theorem trv_dy {H : Hp} : ∀ (t : Tr) (v : V), TrV H v t → Dy K H v t.dat
  | .hand n, _, h => by cases h; simp only [Tr.dat]; exact .str n
  | .grp n b ms, _, h => by
    cases h with
    | grp h1 h2 h3 =>
      simp only [Tr.dat]
      exact .tup (st_of h1) (.cons (.str n) (.cons (.int b) (.cons (.tup (st_of h2) (trvs_dy ms _ h3)) .nil)))
theorem trvs_dy {H : Hp} : ∀ (ts : List Tr) (vs : List V), TrVs H vs ts → DyAll K H vs (dats ts)
  | [], _, h => by cases h; simp only [dats]; exact .nil
  | t :: ts, _, h => by
    cases h with
    | cons h1 h2 =>
      simp only [dats]
      exact .cons (trv_dy t _ h1) (trvs_dy ts _ h2)
end
end
theorem name_asc {n : Str} (h : nameOk n) : asc n := fun c hc => by
  have := h.2.2 c hc
  omega
mutual
theorem dat_wt : ∀ (t : Tr), (∀ n ∈ t.nms, nameOk n) → t.ok → wt t.dat ≤ 170 * t.size ∧ nodes t.dat ≤ 4 * t.size ∧ t.dat.depth ≤ 2 * t.deep ∧ okD (2 ^ 27) t.dat
  | .hand n, h, _ => by
    have hn := h n (by simp [Tr.nms])
    have := hn.2.1
    simp only [Tr.dat, Tr.deep, Tr.size, wt, nodes, PyData.depth, okD]
    exact ⟨by omega, by omega, by omega, name_asc hn⟩
  | .grp n b ms, h, ho => by
    have hn := h n (by simp [Tr.nms])
    have := hn.2.1
    simp only [Tr.ok] at ho
    obtain ⟨b1, b2, _, ho⟩ := ho
    obtain ⟨i1, i2, i3, i4⟩ := dats_wt ms (fun m hm => h m (by simp [Tr.nms, hm])) ho
    simp only [Tr.dat, Tr.deep, Tr.size, wt, wts, nodes, nodess, PyData.depth, PyData.depthAll, okD, okDs]
    exact ⟨by omega, by omega, by omega, name_asc hn, by omega, i4, trivial⟩
theorem dats_wt : ∀ (ts : List Tr), (∀ n ∈ nmss ts, nameOk n) → oks ts → wts (dats ts) ≤ 170 * sizes ts ∧ nodess (dats ts) ≤ 4 * sizes ts ∧ PyData.depthAll (dats ts) ≤ 2 * deeps ts ∧ okDs (2 ^ 27) (dats ts)
  | [], _, _ => by simp [dats, wts, nodess, PyData.depthAll, okDs]
  | t :: ts, h, ho => by
    simp only [oks] at ho
    obtain ⟨i1, i2, i3, i4⟩ := dat_wt t (fun m hm => h m (by simp [nmss, hm])) ho.1
    obtain ⟨j1, j2, j3, j4⟩ := dats_wt ts (fun m hm => h m (by simp [nmss, hm])) ho.2
    simp only [dats, wts, nodess, PyData.depthAll, okDs, sizes, deeps]
    exact ⟨by omega, by omega, by omega, i4, j4⟩
end
theorem tk_aside {H : Hp} {h l : Addr} (A : Hand H h l) : TK H (aside H [h, l]) := fun a xs e => by
  obtain ⟨n1, n2⟩ := A.off e (fun _ z => by cases z)
  rw [aside_at (off_hl n1 n2)]
  exact e
theorem tree_dx {K : PySem.W.Frag} {H : Hp} {v : V} {t : Tr} (h : TrV H v t) : Dx K H v t.dat := dx_dp _ _ (trv_dp t v h)
theorem tree_fits {t : Tr} (h : ∀ n ∈ t.nms, nameOk n) (ho : t.ok) (hs : t.size ≤ 200) (hd : t.deep ≤ 12) : shorts t.dat ∧ t.dat.depth ≤ 30 ∧ nodes t.dat ≤ 4000 := by
  obtain ⟨h1, h2, h3, h4⟩ := dat_wt t h ho
  exact ⟨shorts_wt (W := 10000000) (by decide) _ (by omega), by omega, by omega⟩
end NL

/-! terms that make some datum and change nothing that is there; some addresses set aside -/
namespace NL
open PySem PySem.Spec PyProof.Rows L2 Evl
def Sin (S : List Addr) (H : Hp) : Prop := ∀ a ∈ S, H a ≠ none
theorem Sin.ex {S : List Addr} {H H' : Hp} (s : Sin S H) (e : Ex H H') : Sin S H' := fun a ha z => by
  cases h : H a with
  | none => exact s a ha h
  | some o =>
    rw [e a o h] at z
    cases z
theorem Sin.off {S : List Addr} {H : Hp} {p : Addr} (s : Sin S H) (hp : H p = none) : p ∉ S := fun h => s p h hp
theorem Sin.cons {S : List Addr} {H H' : Hp} {p : Addr} {o : HO} (s : Sin S H) (e : Ex H H') (hp : H' p = some o) : Sin (p :: S) H' := fun a ha => by
  rcases List.mem_cons.mp ha with rfl | ha
  · rw [hp]
    exact fun z => by cases z
  · exact s.ex e a ha
theorem aside_new {S : List Addr} {H : Hp} {p : Addr} {o : HO} (s : Sin S H) (hp : H p = none) : aside (upd H p o) S p = some o := by
  rw [aside_at (s.off hp)]
  exact upd_same
section
variable {K : PySem.W.Frag} {S : List Addr} {σ : L2.St} {H H' : Hp} {te tb : TE} {ta : TA} {W N D B W' N' D' B' n m : Nat}
def PV (K : PySem.W.Frag) (S : List Addr) (W N D B : Nat) (te : TE) (σ : L2.St) (H : Hp) : Prop := ∀ H1, Ex H H1 → ∀ Q : VK, (∀ v H2, Ex H1 H2 → G K (aside H2 S) v W N D B → Q v H2) → te σ H1 Q
def PAs (K : PySem.W.Frag) (S : List Addr) (n W N D B : Nat) (ta : TA) (σ : L2.St) (H : Hp) : Prop := ∀ H1, Ex H H1 → ∀ Q : List V → Hp → Prop, (∀ vs H2, Ex H1 H2 → vs.length = n → (∀ v ∈ vs, G K (aside H2 S) v W N D B) → Q vs H2) → ta σ H1 Q
def PTp (K : PySem.W.Frag) (S : List Addr) (W N D B : Nat) (te : TE) (σ : L2.St) (H : Hp) : Prop := ∀ H1, Ex H H1 → ∀ Q : VK, (∀ p xs H2, Ex H1 H2 → SqT K (aside H2 S) p xs → GL K (aside H2 S) xs W N D B → Q (.ref p) H2) → te σ H1 Q
/-- a list of at most n of them -/
def PLs (K : PySem.W.Frag) (S : List Addr) (n W N D B : Nat) (te : TE) (σ : L2.St) (H : Hp) : Prop := ∀ H1, Ex H H1 → ∀ Q : VK, (∀ p xs H2, Ex H1 H2 → H2 p = some (.lst xs) → p ∉ S → xs.length ≤ n → (∀ v ∈ xs, G K (aside H2 (p :: S)) v W N D B) → Q (.ref p) H2) → te σ H1 Q
/-- a new one -/
def PLn (K : PySem.W.Frag) (S : List Addr) (n W N D B : Nat) (te : TE) (σ : L2.St) (H : Hp) : Prop := ∀ H1, Ex H H1 → ∀ Q : VK, (∀ p xs H2, H1 p = none → Ex H1 H2 → H2 p = some (.lst xs) → p ∉ S → xs.length ≤ n → (∀ v ∈ xs, G K (aside H2 (p :: S)) v W N D B) → Q (.ref p) H2) → te σ H1 Q
theorem PLn.ls (g : PLn K S n W N D B te σ H) : PLs K S n W N D B te σ H := fun H1 e Q q => g H1 e Q fun p xs H2 _ => q p xs H2
theorem PV.mono (g : PV K S W N D B te σ H) (e : Ex H H') : PV K S W N D B te σ H' := fun H1 e1 Q q => g H1 (e.trans e1) Q q
theorem PV.up (g : PV K S W N D B te σ H) (hW : W ≤ W') (hN : N ≤ N') (hD : D ≤ D') (hB : B ≤ B') : PV K S W' N' D' B' te σ H := fun H1 e Q q => g H1 e Q fun v H2 e2 g2 => q v H2 e2 (g2.up hW hN hD hB)
theorem PTp.up (g : PTp K S W N D B te σ H) (hW : W ≤ W') (hN : N ≤ N') (hD : D ≤ D') (hB : B ≤ B') : PTp K S W' N' D' B' te σ H := fun H1 e Q q => g H1 e Q fun p xs H2 e2 s g2 => q p xs H2 e2 s (g2.up hW hN hD hB)
theorem PLs.up (g : PLs K S n W N D B te σ H) (hn : n ≤ m) (hW : W ≤ W') (hN : N ≤ N') (hD : D ≤ D') (hB : B ≤ B') : PLs K S m W' N' D' B' te σ H := fun H1 e Q q => g H1 e Q fun p xs H2 e2 h off l g2 => q p xs H2 e2 h off (by omega) fun v hv => (g2 v hv).up hW hN hD hB
theorem g_ex {v : V} (g : G K (aside H S) v W N D B) (e : Ex H H') : G K (aside H' S) v W N D B := g.mono (aside_e e)
theorem gl_ex {xs : List V} (g : GL K (aside H S) xs W N D B) (e : Ex H H') : GL K (aside H' S) xs W N D B := g.mono (aside_e e)
theorem t_ex {p : Addr} {xs : List V} (g : SqT K (aside H S) p xs) (e : Ex H H') : SqT K (aside H' S) p xs := ex_t (aside_e e) g
theorem pv_ev {v : V} (h : Ev te σ H v) (g : G K (aside H S) v W N D B) : PV K S W N D B te σ H := fun H1 e Q q => h H1 e Q fun H2 e2 => q v H2 e2 (g_ex g (e.trans e2))
theorem pv_var {i : Nat} {v : V} (e : σ[i]? = some (some v)) (g : G K (aside H S) v W N D B) : PV K S W N D B (tVar i) σ H := pv_ev (ev_var e) g
theorem pv_non (hW : 10 ≤ W) (hN : 1 ≤ N) : PV K S W N D B (tC .non) σ H := pv_ev ev_c ((G.non).up hW hN (Nat.zero_le _) (Nat.le_refl _))
theorem pv_bl {b : Bool} (hW : 10 ≤ W) (hN : 1 ≤ N) : PV K S W N D B (tC (.bl b)) σ H := pv_ev ev_c ((G.bl b).up hW hN (Nat.zero_le _) (Nat.le_refl _))
theorem pv_int {i : Int} (h : Ev te σ H (.int i)) (hi : i.natAbs ≤ B) (hW : 60 ≤ W) (hN : 1 ≤ N) : PV K S W N D B te σ H := pv_ev h ((G.int hi).up hW hN (Nat.zero_le _) (Nat.le_refl _))
theorem pv_str {z : Str} (h : Ev te σ H (.str z)) (az : asc z) (hW : 10 * z.length + 10 ≤ W) (hN : 1 ≤ N) : PV K S W N D B te σ H := pv_ev h ((G.str (n := 10 * z.length + 10) (Nat.le_refl _) az).up hW hN (Nat.zero_le _) (Nat.le_refl _))
theorem pv_lit {s : String} (ha : (s.toList.all fun c => decide (c.toNat < 128)) = true) (hl : s.length ≤ 50) (hW : 600 ≤ W) (hN : 1 ≤ N) : PV K S W N D B (tC (.str (Str.ofString s))) σ H := pv_str ev_c (asc_lit ha) (by rw [PySem.ofString_length]; omega) hN
theorem pas_nil : PAs K S 0 W N D B tNil σ H := fun H1 _ Q q => q [] H1 (Ex.refl H1) rfl (fun v z => by cases z)
theorem pas_cons (g : PV K S W N D B te σ H) (r : PAs K S n W N D B ta σ H) : PAs K S (n + 1) W N D B (tCons te ta) σ H := fun H1 e Q q =>
  g H1 e _ fun v H2 e2 g2 => r H2 (e.trans e2) _ fun vs H3 e3 hl hv => q (v :: vs) H3 (e2.trans e3) (by rw [List.length_cons, hl]) fun u hu => by
    rcases List.mem_cons.mp hu with rfl | hu
    · exact g_ex g2 e3
    · exact hv u hu
theorem pt_new (g : PAs K S n W N D B ta σ H) (hn : n ≤ 1000) (s : Sin S H) : PTp K S (n * W) (n * N) D B (tTup ta) σ H := fun H1 e Q q =>
  g H1 e _ fun vs H2 e2 hl hv => ⟨sz_of (by omega), fun p hp => by
    refine q p vs _ (e2.trans (Ex.new hp)) (st_of (aside_new (s.ex (e.trans e2)) hp)) ?_
    rw [← hl]
    exact gl_ex (gl_all hv) (Ex.new hp)⟩
theorem pv_pt (g : PTp K S W N D B te σ H) : PV K S (W + 10) (N + 1) (D + 1) B te σ H := fun H1 e Q q => g H1 e Q fun p xs H2 e2 s g2 => q _ H2 e2 (G.tup s g2)
theorem pv_t (g : PAs K S n W N D B ta σ H) (hn : n ≤ 1000) (s : Sin S H) (hW : n * W + 10 ≤ W') (hN : n * N + 1 ≤ N') (hD : D + 1 ≤ D') : PV K S W' N' D' B (tTup ta) σ H := (pv_pt (pt_new g hn s)).up hW hN hD (Nat.le_refl _)
theorem pv_three {i1 i2 i3 W1 W2 W3 N1 N2 N3 : Nat} {x1 x2 x3 : V} (s : Sin S H) (h1 : σ[i1]? = some (some x1)) (h2 : σ[i2]? = some (some x2)) (h3 : σ[i3]? = some (some x3)) (g1 : G K (aside H S) x1 W1 N1 D B) (g2 : G K (aside H S) x2 W2 N2 D B) (g3 : G K (aside H S) x3 W3 N3 D B)
    (hW : W1 + (W2 + (W3 + 0)) + 10 ≤ W') (hN : N1 + (N2 + (N3 + 0)) + 1 ≤ N') : PV K S W' N' (D + 1) B (tTup (tCons (tVar i1) (tCons (tVar i2) (tCons (tVar i3) tNil)))) σ H := fun H1 e Q q =>
  ⟨_, h1, _, h2, _, h3, sz_of (by simp), fun p hp => q _ _ (Ex.new hp) ((G.tup (st_of (aside_new (s.ex e) hp)) (GL.cons (g_ex g1 (e.trans (Ex.new hp))) (GL.cons (g_ex g2 (e.trans (Ex.new hp))) (GL.cons (g_ex g3 (e.trans (Ex.new hp))) (GL.nil (W := 0) (N := 0)))))).up hW hN (Nat.le_refl _) (Nat.le_refl _))⟩
theorem pt_ev {p : Addr} {xs : List V} (h : Ev te σ H (.ref p)) (s : SqT K (aside H S) p xs) (g : GL K (aside H S) xs W N D B) : PTp K S W N D B te σ H := fun H1 e Q q => h H1 e _ fun H2 e2 => q p xs H2 e2 (t_ex s (e.trans e2)) (gl_ex g (e.trans e2))
theorem pt_var {i : Nat} {p : Addr} {xs : List V} (e : σ[i]? = some (some (.ref p))) (s : SqT K (aside H S) p xs) (g : GL K (aside H S) xs W N D B) : PTp K S W N D B (tVar i) σ H := pt_ev (ev_var e) s g
theorem pt_cat (ga : PTp K S W N D B te σ H) (gb : PTp K S W' N' D B tb σ H) (hz : W + W' ≤ 1000000) (s : Sin S H) : PTp K S (W + W') (N + N') D B (tOp (rCatA K) te tb) σ H := fun H1 e Q q =>
  ga H1 e _ fun p xs H2 e2 s2 g2 => gb H2 (e.trans e2) _ fun p' ys H3 e3 s3 g3 => by
    have s2' := t_ex s2 e3
    have g2' := gl_ex g2 e3
    have l2 := g2'.len
    have l3 := g3.len
    refine ⟨p, p', xs, ys, rfl, rfl, ex_t (aside_sub _ _) s2', ex_t (aside_sub _ _) s3, sz_of (by omega), fun z => ?_, fun _ z => ?_, fun _ _ r hr => ?_⟩
    · exact q p' ys H3 (e2.trans e3) s3 (g3.up (by omega) (by omega) (Nat.le_refl _) (Nat.le_refl _))
    · exact q p xs H3 (e2.trans e3) s2' (g2'.up (by omega) (by omega) (Nat.le_refl _) (Nat.le_refl _))
    · exact q r _ _ ((e2.trans e3).trans (Ex.new hr)) (st_of (aside_new (s.ex ((e.trans e2).trans e3)) hr)) (gl_ex (g2'.app g3) (Ex.new hr))
theorem pt_sl {lo hi : Option Int} {tl th : TO} (g : PTp K S W N D B te σ H) (hl : EvO tl σ H lo) (hh : EvO th σ H hi) (s : Sin S H) : PTp K S W N D B (tSl (rSlA K) te tl th) σ H := fun H1 e Q q =>
  g H1 e _ fun p xs H2 e2 s2 g2 => hl H2 (e.trans e2) _ fun H3 e3 => hh H3 ((e.trans e2).trans e3) _ fun H4 e4 => by
    have s4 := t_ex s2 (e3.trans e4)
    have g4 := gl_ex g2 (e3.trans e4)
    refine ⟨p, xs, rfl, ex_t (aside_sub _ _) s4, fun _ => q p xs H4 ((e2.trans e3).trans e4) s4 g4, fun _ r hr => ?_⟩
    exact q r _ _ (((e2.trans e3).trans e4).trans (Ex.new hr)) (st_of (aside_new (s.ex (((e.trans e2).trans e3).trans e4)) hr)) (gl_ex (g4.cut lo hi) (Ex.new hr))
theorem pt_rev (g : PTp K S W N D B te σ H) (s : Sin S H) : PTp K S W N D B (tRevT K te) σ H := fun H1 e Q q =>
  g H1 e _ fun p xs H2 e2 s2 g2 => ⟨p, xs, rfl, ex_t (aside_sub _ _) s2, fun r hr => q r _ _ (e2.trans (Ex.new hr)) (st_of (aside_new (s.ex (e.trans e2)) hr)) (gl_ex g2.rev (Ex.new hr))⟩
theorem pv_listT (g : PTp K S W N D B te σ H) (s : Sin S H) : PV K S (W + 10) (N + 1) (D + 1) B (tCB (rListT K) (tCons te tNil)) σ H := fun H1 e Q q =>
  g H1 e _ fun p xs H2 e2 s2 g2 => ⟨p, xs, rfl, Or.inr (ex_t (aside_sub _ _) s2), fun r hr => q _ _ (e2.trans (Ex.new hr)) (G.lst (aside_new (s.ex (e.trans e2)) hr) (gl_ex g2 (Ex.new hr)))⟩
theorem pl_lst (g : PAs K S n W N D B ta σ H) (hn : n ≤ 1000) (s : Sin S H) : PLn K S n W N D B (tLst ta) σ H := fun H1 e Q q =>
  g H1 e _ fun vs H2 e2 hl hv => ⟨sz_of (by omega), fun p hp => q p vs _ (fresh_back e2 hp) (e2.trans (Ex.new hp)) upd_same ((s.ex (e.trans e2)).off hp) (by omega) fun v z => (hv v z).mono (aside_more hp (Ex.new hp))⟩
theorem pl_var {i : Nat} {p : Addr} {xs : List V} (e : σ[i]? = some (some (.ref p))) (hp : H p = some (.lst xs)) (off : p ∉ S) (hl : xs.length ≤ n) (g : ∀ v ∈ xs, G K (aside H (p :: S)) v W N D B) : PLs K S n W N D B (tVar i) σ H := fun H1 e1 Q q =>
  ⟨_, e, q p xs H1 (Ex.refl H1) (e1 _ _ hp) off hl fun v z => g_ex (g v z) e1⟩
theorem pl_cat (ga : PLs K S n W N D B te σ H) (gb : PLs K S m W N D B tb σ H) (hz : n + m ≤ 50000) (s : Sin S H) : PLn K S (n + m) W N D B (tOp rCat te tb) σ H := fun H1 e Q q =>
  ga H1 e _ fun p vs H2 e2 h2 _ l2 g2 => gb H2 (e.trans e2) _ fun p' us H3 e3 h3 _ l3 g3 => ⟨p, p', vs, us, rfl, rfl, e3 _ _ h2, h3, sz_of (by omega), fun r hr => by
    refine q r _ _ (fresh_back (e2.trans e3) hr) ((e2.trans e3).trans (Ex.new hr)) upd_same ((s.ex ((e.trans e2).trans e3)).off hr) (by rw [List.length_append]; omega) fun v z => ?_
    rcases List.mem_append.mp z with z | z
    · exact ((g_ex (g2 v z) e3).mono aside_less).mono (aside_more hr (Ex.new hr))
    · exact ((g3 v z).mono aside_less).mono (aside_more hr (Ex.new hr))⟩
/-- what a comprehension's list has by now -/
def LcW (K : PySem.W.Frag) (S : List Addr) (H : Hp) (d : Addr) (W N D B : Nat) (i : Nat) (H' : Hp) : Prop := Ex H H' ∧ ∃ vs, H' d = some (.lst vs) ∧ vs.length = i ∧ ∀ v ∈ vs, G K (aside H' (d :: S)) v W N D B
theorem lcw_turn {d : Addr} {i : Nat} {σ2 : L2.St} (hd : H d = none) (w : LcW K S H d W N D B i H') (hi : i < 90000) (g : PV K (d :: S) W N D B te σ2 H') : tYes σ2 H' fun b H3 => if b = true then te σ2 H3 fun y H4 => ∃ acc, H4 d = some (.lst acc) ∧ acc.length < sizeLine ∧ LcW K S H d W N D B (i + 1) (upd H4 d (.lst (acc ++ [y]))) else LcW K S H d W N D B (i + 1) H3 := by
  obtain ⟨e, vs, hv, hl, hg⟩ := w
  refine tYesQ (g H' (Ex.refl H') _ fun y H4 e4 gy => ⟨vs, e4 _ _ hv, sz_lt (by omega), Ex.mut (e.trans e4) hd, _, upd_same, by rw [List.length_append, hl]; rfl, fun v z => ?_⟩)
  have same : Ex (aside H4 (d :: S)) (aside (upd H4 d (.lst (vs ++ [y]))) (d :: S)) := aside_ex fun a o ha h => by
    have hne : a ≠ d := fun z => ha (by rw [z]; exact List.mem_cons_self ..)
    rw [upd_ne hne]
    exact h
  rcases List.mem_append.mp z with z | z
  · exact ((hg v z).mono (aside_e e4)).mono same
  · rw [List.mem_singleton.mp z]
    exact gy.mono same
theorem pl_lcT {tl : TE} {j : Nat} {vs : List Nat} (src : PTp K S W N D B tl σ H) (hW : W ≤ 100000) (clean : ∀ x, wipe ((wipe σ vs).set j (some x)) vs = wipe σ vs)
    (each : ∀ (d : Addr) (x : V) H1, Ex H H1 → Sin S H1 → (∃ o, H1 d = some o) → d ∉ S → Ex (aside H S) (aside H1 (d :: S)) → G K (aside H1 (d :: S)) x W N D B → PV K (d :: S) W' N' D' B' te ((wipe σ vs).set j (some x)) H1) (s : Sin S H) :
    PLn K S (W / 10) W' N' D' B' (tLc (iTup K tl) (gName j) tYes te vs) σ H := fun H1 e Q q =>
  src H1 e _ fun p xs H2 e2 sp gx => ⟨p, rfl, ⟨xs, ex_t (aside_sub _ _) sp⟩, fun d hd => by
    have len := gx.len
    have e02 := e.trans e2
    refine lc_tup (xs := xs) (LcW K S H2 d W' N' D' B') ⟨Ex.new hd, [], upd_same, rfl, fun v z => by cases z⟩ (fun i H' _ w => ex_t w.1 (ex_t (aside_sub _ _) sp)) (fun i x H' hx w => ?_) (fun H' w => ?_)
    · have hi := (List.getElem?_eq_some_iff.mp hx).1
      obtain ⟨o, ho⟩ : ∃ o, H' d = some o := by
        obtain ⟨_, ws, h, _⟩ := w
        exact ⟨_, h⟩
      have more : Ex (aside H2 S) (aside H' (d :: S)) := aside_more hd w.1
      exact ⟨clean x, lcw_turn hd w (by omega) (each d x H' (e02.trans w.1) (s.ex (e02.trans w.1)) ⟨o, ho⟩ ((s.ex e02).off hd) ((aside_e e02).trans more) ((gx.get (List.mem_of_getElem? hx)).mono more))⟩
    · obtain ⟨e3, ws, h, hl, hg⟩ := w
      exact q d ws H' (fresh_back e2 hd) (e2.trans e3) h ((s.ex e02).off hd) (by omega) fun v z => hg v z⟩
theorem pl_lcL {tl : TE} {j : Nat} {vs : List Nat} (src : PLs K S n W N D B tl σ H) (hn : n ≤ 50000) (clean : ∀ x, wipe ((wipe σ vs).set j (some x)) vs = wipe σ vs)
    (each : ∀ (d : Addr) (x : V) H1, Ex H H1 → Sin S H1 → (∃ o, H1 d = some o) → d ∉ S → Ex (aside H S) (aside H1 (d :: S)) → G K (aside H1 (d :: S)) x W N D B → PV K (d :: S) W' N' D' B' te ((wipe σ vs).set j (some x)) H1) (s : Sin S H) :
    PLn K S n W' N' D' B' (tLc (iList K tl) (gName j) tYes te vs) σ H := fun H1 e Q q =>
  src H1 e _ fun p xs H2 e2 hp off hl gx => ⟨p, rfl, ⟨xs, sq_of hp⟩, fun d hd => by
    have e02 := e.trans e2
    refine lc_list (xs := xs) (LcW K S H2 d W' N' D' B') ⟨Ex.new hd, [], upd_same, rfl, fun v z => by cases z⟩ (fun i H' _ w => sq_of (w.1 _ _ hp)) (fun i x H' hx w => ?_) (fun H' w => ?_)
    · have hi := (List.getElem?_eq_some_iff.mp hx).1
      obtain ⟨o, ho⟩ : ∃ o, H' d = some o := by
        obtain ⟨_, ws, h, _⟩ := w
        exact ⟨_, h⟩
      have more : Ex (aside H2 S) (aside H' (d :: S)) := aside_more hd w.1
      exact ⟨clean x, lcw_turn hd w (by omega) (each d x H' (e02.trans w.1) (s.ex (e02.trans w.1)) ⟨o, ho⟩ ((s.ex e02).off hd) ((aside_e e02).trans more) (((gx x (List.mem_of_getElem? hx)).mono aside_less).mono more))⟩
    · obtain ⟨e3, ws, h, hl3, hg⟩ := w
      exact q d ws H' (fresh_back e2 hd) (e2.trans e3) h ((s.ex e02).off hd) (by omega) fun v z => hg v z⟩
theorem q_forP {tl : TE} {j : Nat} {tu tz : TS} {De : Ends} (src : PTp K S W N D B tl σ H) (go : ∀ p xs H1, Ex H H1 → SqT K (aside H1 S) p xs → GL K (aside H1 S) xs W N D B → ∃ Pv : Nat → L2.St → Hp → Prop, Pv 0 σ H1 ∧ (∀ i σ' H', i ≤ xs.length → Pv i σ' H' → SqT K H' p xs) ∧
    (∀ i x σ' H', xs[i]? = some x → Pv i σ' H' → tu { De with nx := Pv (i + 1), ct := Pv (i + 1), bk := tz De } (σ'.set j (some x)) H') ∧ ∀ σ' H', Pv xs.length σ' H' → tz De σ' H') : tSeq (tFor (iTup K tl) (gName j) tu) tz De σ H :=
  src H (Ex.refl H) _ fun p xs H1 e s g => by
    obtain ⟨Pv, h0, hl, hs, hd⟩ := go p xs H1 e s g
    exact ⟨p, rfl, ⟨xs, ex_t (aside_sub _ _) s⟩, for_tup Pv h0 hl hs hd⟩
theorem q_asgLs {i : Nat} {tz : TS} {De : Ends} (src : PLn K S n W N D B te σ H) (k : ∀ p xs H1, H p = none → Ex H H1 → H1 p = some (.lst xs) → p ∉ S → xs.length ≤ n → (∀ v ∈ xs, G K (aside H1 (p :: S)) v W N D B) → tz De (σ.set i (some (.ref p))) H1) : tSeq (tAsg te (gName i)) tz De σ H := src H (Ex.refl H) _ fun p xs H1 hn e h1 off hl hg => k p xs H1 hn e h1 off hl hg
theorem s_retLs {De : Ends} (src : PLn K S n W N D B te σ H) (k : ∀ p xs H1, Ex H H1 → H1 p = some (.lst xs) → p ∉ S → xs.length ≤ n → (∀ v ∈ xs, G K (aside H1 (p :: S)) v W N D B) → De.rt (.ref p) H1) : tRet te De σ H := src H (Ex.refl H) _ fun p xs H1 _ e h1 off hl hg => k p xs H1 e h1 off hl hg
/-- for one in (..): found.append(..) -/
theorem q_forApp {tl : TE} {j i : Nat} {tz : TS} {De : Ends} {pf : Addr} {ys : List V} {c0 : Option V} {S0 : List Addr} (hj : σ[j]? = some c0) (src : PTp K (pf :: S0) W N D B tl σ H) (hW : W ≤ 200000) (hp : H pf = some (.lst ys)) (hys : ys.length ≤ 10000) (gys : ∀ y ∈ ys, G K (aside H (pf :: S0)) y W' N' D' B') (hi : ∀ x, (σ.set j (some x))[i]? = some (some (.ref pf)))
    (each : ∀ x H', (∀ c o, c ≠ pf → H c = some o → H' c = some o) → (∃ zs, H' pf = some (.lst zs)) → G K (aside H' (pf :: S0)) x W N D B → PV K (pf :: S0) W' N' D' B' te (σ.set j (some x)) H')
    (tail : ∀ c H' zs, (∀ c o, c ≠ pf → H c = some o → H' c = some o) → H' pf = some (.lst zs) → zs.length ≤ ys.length + W / 10 → (∀ z ∈ zs, G K (aside H' (pf :: S0)) z W' N' D' B') → tz De (σ.set j c) H') : tSeq (tFor (iTup K tl) (gName j) (tDrop (tBM K "list" rAppend (tVar i) (tCons te tNil)))) tz De σ H := by
  refine q_forP src fun tp zs H5 e5 stp gzs => ?_
  have zl := gzs.len
  have stay : ∀ {H'}, (∀ c o, c ≠ pf → H5 c = some o → H' c = some o) → Ex (aside H5 (pf :: S0)) (aside H' (pf :: S0)) := fun k => aside_ex fun c o hc e => k c o (fun z => hc (by rw [z]; exact List.mem_cons_self ..)) e
  have back : ∀ {H' : Hp}, (∀ c o, c ≠ pf → H5 c = some o → H' c = some o) → ∀ c o, c ≠ pf → H c = some o → H' c = some o := fun k c o hc e => k c o hc (e5 c o e)
  refine ⟨fun n σ' H' => (∀ c o, c ≠ pf → H5 c = some o → H' c = some o) ∧ ∃ us c, H' pf = some (.lst us) ∧ us.length = ys.length + n ∧ (∀ u ∈ us, G K (aside H' (pf :: S0)) u W' N' D' B') ∧ σ' = σ.set j c, ?_, ?_, ?_, ?_⟩
  · refine ⟨fun c o _ e => e, ys, c0, e5 _ _ hp, rfl, fun u hu => g_ex (gys u hu) e5, ?_⟩
    refine (List.ext_getElem? fun k => ?_)
    rw [List.getElem?_set]
    split
    · rename_i h
      subst h
      split
      · exact hj
      · rename_i h2
        rw [List.getElem?_eq_none (by omega)] at hj
        cases hj
    · rfl
  · intro n σ' H6 _ hP
    exact ex_t (aside_sub _ _) (ex_t (stay hP.1) stp)
  · intro n x σ' H6 hx hP
    obtain ⟨k6, us, c, hu, ul, ug, rfl⟩ := hP
    have hn := (List.getElem?_eq_some_iff.mp hx).1
    rw [List.set_set]
    refine ⟨.ref pf, hi x, Or.inl ⟨rfl, us, sq_of hu⟩, ?_⟩
    refine (each x H6 (back k6) ⟨us, hu⟩ ((gzs.get (List.mem_of_getElem? hx)).mono (stay k6))) H6 (Ex.refl H6) _ fun y H7 e7 gy => ?_
    refine ⟨pf, us, y, rfl, rfl, e7 _ _ hu, sz_lt (by omega), fun c o hc e => by rw [upd_ne hc]; exact e7 _ _ (k6 c o hc e), us ++ [y], _, upd_same, by rw [List.length_append]; simp only [List.length_singleton]; omega, fun u hm => ?_, rfl⟩
    have same : Ex (aside H7 (pf :: S0)) (aside (upd H7 pf (.lst (us ++ [y]))) (pf :: S0)) := aside_ex fun c o hc e => by
      have hne : c ≠ pf := fun z => hc (by rw [z]; exact List.mem_cons_self ..)
      rw [upd_ne hne]
      exact e
    rcases List.mem_append.mp hm with hm | hm
    · exact ((ug u hm).mono (aside_e e7)).mono same
    · rw [List.mem_singleton.mp hm]
      exact gy.mono same
  · intro σ' H6 hP
    obtain ⟨k6, us, c, hu, ul, ug, rfl⟩ := hP
    exact tail c H6 us (back k6) hu (by omega) ug
theorem catS {a b : Addr} {xs ys : List V} {Q : VK} (s : Sin S H) (sa : SqT K (aside H S) a xs) (sb : SqT K (aside H S) b ys) (hz : xs.length + ys.length ≤ 100000) (q : ∀ r H', Ex H H' → SqT K (aside H' S) r (xs ++ ys) → Q (.ref r) H') : rCatA K (.ref a) (.ref b) H Q := by
  refine ⟨a, b, xs, ys, rfl, rfl, ex_t (aside_sub _ _) sa, ex_t (aside_sub _ _) sb, sz_of hz, fun z => ?_, fun _ z => ?_, fun _ _ r hr => ?_⟩
  · subst z
    exact q b H (Ex.refl H) sb
  · subst z
    rw [List.append_nil] at q
    exact q a H (Ex.refl H) sa
  · exact q r _ (Ex.new hr) (st_of (aside_new s hr))
theorem slS {a : Addr} {xs : List V} {Q : VK} {lo hi : Option Int} (s : Sin S H) (sa : SqT K (aside H S) a xs) (q : ∀ r H', Ex H H' → SqT K (aside H' S) r (cutV xs lo hi) → Q (.ref r) H') : rSlA K (.ref a) lo hi H Q := by
  refine ⟨a, xs, rfl, ex_t (aside_sub _ _) sa, fun z => ?_, fun _ r hr => q r _ (Ex.new hr) (st_of (aside_new s hr))⟩
  have e : cutV xs lo hi = xs := by
    unfold cutV
    rw [z.1, z.2]
    simp
  rw [e] at q
  exact q a H (Ex.refl H) sa
end
theorem dats_get : ∀ {ms : List Tr} {i : Nat} {m : Tr}, ms[i]? = some m → (dats ms)[i]? = some m.dat
  | [], _, _, h => by simp at h
  | t :: ts, 0, m, h => by simp at h; subst h; simp [dats]
  | t :: ts, i + 1, m, h => by
    have := dats_get (ms := ts) (i := i) (m := m) (by simpa using h)
    simpa [dats] using this
theorem dats_len : ∀ ms : List Tr, (dats ms).length = ms.length
  | [] => rfl
  | t :: ts => by simp [dats, dats_len ts]
end NL

/-! the box that draws: a list of three numbers; a box of names: a dict of three -/
namespace NL
open PySem L2 Evl
structure BxAt (H : Hp) (h : Addr) (n m c : Int) (C : Nat) : Prop where
  hh : H h = some (.lst [.int n, .int m, .int c])
  n0 : 0 ≤ n
  m0 : 0 ≤ m
  m1 : m < 2 ^ 100
  c0 : 0 ≤ c
  c1 : c ≤ C
def Bx (H : Hp) (h : Addr) (C : Nat) : Prop := ∃ n m c, BxAt H h n m c C
theorem BxAt.ex {H H' : Hp} {h : Addr} {n m c : Int} {C : Nat} (A : BxAt H h n m c C) (e : Ex H H') : BxAt H' h n m c C := ⟨e _ _ A.hh, A.n0, A.m0, A.m1, A.c0, A.c1⟩
theorem Bx.ex {H H' : Hp} {h : Addr} {C : Nat} (A : Bx H h C) (e : Ex H H') : Bx H' h C := by
  obtain ⟨n, m, c, A⟩ := A
  exact ⟨n, m, c, A.ex e⟩
theorem Bx.up {H : Hp} {h : Addr} {C C' : Nat} (A : Bx H h C) (hC : C ≤ C') : Bx H h C' := by
  obtain ⟨n, m, c, A⟩ := A
  exact ⟨n, m, c, A.hh, A.n0, A.m0, A.m1, A.c0, by have := A.c1; omega⟩
theorem Bx.fresh {H : Hp} {h p : Addr} {C : Nat} (A : Bx H h C) (n : H p = none) : p ≠ h := by
  obtain ⟨_, _, _, A⟩ := A
  intro e
  subst e
  rw [A.hh] at n
  cases n
theorem Bx.new {H : Hp} {h p : Addr} {o : HO} {C : Nat} (A : Bx H h C) (n : H p = none) : Bx (upd H p o) h C := A.ex (Ex.new n)
theorem Bx.sin {H : Hp} {h : Addr} {C : Nat} (A : Bx H h C) : Sin [h] H := by
  obtain ⟨_, _, _, A⟩ := A
  intro a ha
  rw [List.mem_singleton.mp ha, A.hh]
  exact fun z => by cases z
theorem ev_abs {σ : L2.St} {H : Hp} {te : TE} {i : Int} (h : Ev te σ H (.int i)) : Ev (tCB (fun xs H Q => ∃ i, xs = [.int i] ∧ Q (.int (if i < 0 then -i else i)) H) (tCons te tNil)) σ H (.int (if i < 0 then -i else i)) := ev_cb (ea_cons h ea_nil) fun H1 e Q q => ⟨i, rfl, q H1 (Ex.refl H1)⟩
theorem ev_intB {σ : L2.St} {H : Hp} {te : TE} {b : Bool} (h : Ev te σ H (.bl b)) : Ev (tCB (fun xs H Q => (∃ i, xs = [.int i] ∧ Q (.int i) H) ∨ ∃ k, xs = [.bl k] ∧ Q (.int (if k then 1 else 0)) H) (tCons te tNil)) σ H (.int (if b then 1 else 0)) := ev_cb (ea_cons h ea_nil) fun H1 e Q q => Or.inr ⟨b, rfl, q H1 (Ex.refl H1)⟩
theorem kp_mut {h : Addr} {H H' : Hp} {p : Addr} {o : HO} (k : Kp h h H H') (n : H p = none) : Kp h h H (upd H' p o) := fun a u n1 n2 e => by
  have : a ≠ p := fun z => by
    subst z
    rw [n] at e
    cases e
  rw [upd_ne this]
  exact k a u n1 n2 e
theorem ex_kp {H H1 H' : Hp} {h : Addr} (e : Ex H H1) (n : H h = none) (k : Kp h h H1 H') : Ex H H' := fun a o ha => by
  have : a ≠ h := fun z => by
    subst z
    rw [n] at ha
    cases ha
  exact k a o this this (e _ _ ha)
/-! ### names by a dict: which is next, the first, how far from one to the next -/
def NB (H : Hp) (bx : Addr) (k : Nat) (f b : Int) : Prop := H bx = some (.dK [(Sum.inr (Str.ofString "next"), .int (k : Int)), (Sum.inr (Str.ofString "first"), .int f), (Sum.inr (Str.ofString "by"), .int b)])
def nmL (f b : Int) (j : Nat) : Str := ⟨#[97 + ((f + b * (j : Int)) % 26).toNat]⟩
theorem nmL_ok (f b : Int) (j : Nat) : nameOk (nmL f b j) := by
  refine ⟨?_, ?_, fun c hc => ?_⟩
  · show 1 ≤ 1
    decide
  · show 1 ≤ 8
    decide
  · have : c = 97 + ((f + b * (j : Int)) % 26).toNat := by simpa [nmL] using hc
    omega
def byOk (b : Int) : Prop := b = 1 ∨ b = 3 ∨ b = 5 ∨ b = 7 ∨ b = 9 ∨ b = 11 ∨ b = 25
theorem nmL_ne {f b : Int} (h : byOk b) {i j : Nat} (hi : i < j) (hj : j < i + 26) : nmL f b i ≠ nmL f b j := by
  intro e
  have e2 : ((f + b * (i : Int)) % 26).toNat = ((f + b * (j : Int)) % 26).toNat := by
    have := congrArg (fun s : Str => s.cps.toList) e
    simp [nmL] at this
    exact this
  rcases h with rfl | rfl | rfl | rfl | rfl | rfl | rfl <;> omega
theorem NB.ex {H H' : Hp} {bx : Addr} {k : Nat} {f b : Int} (n : NB H bx k f b) (e : Ex H H') : NB H' bx k f b := e _ _ n
theorem NB.kp {H H' : Hp} {bx h : Addr} {k : Nat} {f b : Int} (n : NB H bx k f b) (ne : bx ≠ h) (e : Kp h h H H') : NB H' bx k f b := e _ _ ne ne n
theorem Bx.kp {H H' : Hp} {bx h : Addr} {C : Nat} (A : Bx H h C) (ne : h ≠ bx) (e : Kp bx bx H H') : Bx H' h C := by
  obtain ⟨n, m, c, A⟩ := A
  exact ⟨n, m, c, e _ _ ne ne A.hh, A.n0, A.m0, A.m1, A.c0, A.c1⟩
theorem kp_l {H H' : Hp} {h l : Addr} (k : Kp h h H H') : Kp h l H H' := fun a o n _ e => k a o n n e
theorem kp_r {H H' : Hp} {h l : Addr} (k : Kp l l H H') : Kp h l H H' := fun a o _ m e => k a o m m e
theorem Bx.ne {H : Hp} {h bx : Addr} {C k : Nat} {f b : Int} (A : Bx H h C) (n : NB H bx k f b) : h ≠ bx := fun z => by
  obtain ⟨_, _, _, A⟩ := A
  subst z
  have := A.hh.symm.trans n
  cases this
/-- tuples stay where these two are a list and a dict -/
theorem tk_kp2 {H H' : Hp} {h bx : Addr} {C k : Nat} {f b : Int} (A : Bx H h C) (n : NB H bx k f b) (e : Kp h bx H H') : TK H H' := fun a xs ha => e a _ (fun z => by
  obtain ⟨_, _, _, A⟩ := A
  subst z
  rw [A.hh] at ha
  cases ha) (fun z => by
  subst z
  have := n.symm.trans ha
  cases this) ha
theorem tk_nb {H H' : Hp} {bx : Addr} {k : Nat} {f b : Int} (n : NB H bx k f b) (e : Kp bx bx H H') : TK H H' := fun a xs ha => by
  have : a ≠ bx := fun z => by
    subst z
    have := n.symm.trans ha
    cases this
  exact e a _ this this ha
theorem tk_bx {H H' : Hp} {h : Addr} {C : Nat} (A : Bx H h C) (e : Kp h h H H') : TK H H' := fun a xs ha => by
  obtain ⟨_, _, _, A⟩ := A
  have : a ≠ h := fun z => by
    subst z
    rw [A.hh] at ha
    cases ha
  exact e a _ this this ha
theorem fresh_kp {H H1 : Hp} {h bx D : Addr} (k : Kp h bx H H1) (dh : D ≠ h) (db : D ≠ bx) (hD : H1 D = none) : H D = none := by
  cases z : H D with
  | none => rfl
  | some o => rw [k D o dh db z] at hD; cases hD
theorem NB.fresh {H : Hp} {bx p : Addr} {k : Nat} {f b : Int} (n : NB H bx k f b) (hp : H p = none) : p ≠ bx := fun z => by
  subst z
  have := n.symm.trans hp
  cases this
/-! ### names of groups -/
mutual
def Tr.gn : Tr → List Str
  | .hand _ => []
  | .grp n _ ms => n :: gns ms
def gns : List Tr → List Str
  | [] => []
  | t :: ts => t.gn ++ gns ts
end
theorem mem_gns : ∀ {ts : List Tr} {x : Str}, x ∈ gns ts → ∃ t ∈ ts, x ∈ t.gn
  | t :: ts, x, h => by
    simp only [gns] at h
    rcases List.mem_append.mp h with h | h
    · exact ⟨t, List.mem_cons_self .., h⟩
    · obtain ⟨u, hu, hx⟩ := mem_gns h
      exact ⟨u, List.mem_cons_of_mem _ hu, hx⟩
theorem mem_nmss : ∀ {ts : List Tr} {x : Str}, x ∈ nmss ts → ∃ t ∈ ts, x ∈ t.nms
  | t :: ts, x, h => by
    simp only [nmss] at h
    rcases List.mem_append.mp h with h | h
    · exact ⟨t, List.mem_cons_self .., h⟩
    · obtain ⟨u, hu, hx⟩ := mem_nmss h
      exact ⟨u, List.mem_cons_of_mem _ hu, hx⟩
theorem oks_of : ∀ {ts : List Tr}, (∀ t ∈ ts, t.ok) → oks ts
  | [], _ => trivial
  | t :: ts, h => ⟨h t (List.mem_cons_self ..), oks_of fun u hu => h u (List.mem_cons_of_mem _ hu)⟩
theorem deeps_of {d : Nat} : ∀ {ts : List Tr}, (∀ t ∈ ts, t.deep ≤ d) → deeps ts ≤ d
  | [], _ => Nat.zero_le _
  | t :: ts, h => by
    simp only [deeps]
    exact Nat.max_le.mpr ⟨h t (List.mem_cons_self ..), deeps_of fun u hu => h u (List.mem_cons_of_mem _ hu)⟩
/-- a tree whose groups have names between these -/
structure GM (f b : Int) (lo hi d : Nat) (t : Tr) : Prop where
  ok : t.ok
  dp : t.deep ≤ d
  nm : ∀ x ∈ t.nms, nameOk x
  gn : ∀ x ∈ t.gn, ∃ j, lo < j ∧ j ≤ hi ∧ x = nmL f b j
theorem GM.up {f b : Int} {lo hi lo' hi' d d' : Nat} {t : Tr} (g : GM f b lo hi d t) (h1 : lo' ≤ lo) (h2 : hi ≤ hi') (h3 : d ≤ d') : GM f b lo' hi' d' t := ⟨g.ok, Nat.le_trans g.dp h3, g.nm, fun x hx => by
  obtain ⟨j, a, c, e⟩ := g.gn x hx
  exact ⟨j, by omega, by omega, e⟩⟩
theorem GM.hand {f b : Int} {lo hi d : Nat} {x : Str} (h : nameOk x) : GM f b lo hi d (.hand x) := ⟨trivial, Nat.zero_le _, fun y hy => by
  simp only [Tr.nms] at hy
  rw [List.mem_singleton.mp hy]
  exact h, fun y hy => by cases hy⟩
def GMs (f b : Int) (lo hi d : Nat) (ts : List Tr) : Prop := (∀ t ∈ ts, GM f b lo hi d t) ∧ sizes ts + lo ≤ hi
theorem GMs.grp {f b : Int} {lo lo' hi d j : Nat} {ms : List Tr} {c : Int} (g : GMs f b lo hi d ms) (hn : ms ≠ []) (c1 : 1 ≤ c) (c2 : c ≤ 99999999) (j1 : lo' < j) (j2 : j ≤ hi) (hl : lo' ≤ lo) : GM f b lo' hi (d + 1) (.grp (nmL f b j) c ms) where
  ok := ⟨c1, c2, hn, oks_of fun t ht => (g.1 t ht).ok⟩
  dp := by
    simp only [Tr.deep]
    have := deeps_of fun t ht => (g.1 t ht).dp
    omega
  nm := fun x hx => by
    simp only [Tr.nms] at hx
    rcases List.mem_cons.mp hx with rfl | hx
    · exact nmL_ok f b j
    · obtain ⟨t, ht, hx⟩ := mem_nmss hx
      exact (g.1 t ht).nm x hx
  gn := fun x hx => by
    simp only [Tr.gn] at hx
    rcases List.mem_cons.mp hx with rfl | hx
    · exact ⟨j, j1, j2, rfl⟩
    · obtain ⟨t, ht, hx⟩ := mem_gns hx
      obtain ⟨i, a1, a2, a3⟩ := (g.1 t ht).gn x hx
      exact ⟨i, by omega, a2, a3⟩
theorem GMs.ins {f b : Int} {lo mid hi d : Nat} {a c : List Tr} {t : Tr} (g : GMs f b lo mid d (a ++ c)) (gt : GM f b mid hi d t) (hs : t.size + mid ≤ hi) (hm : lo ≤ mid) : GMs f b lo hi d (a ++ [t] ++ c) := by
  have hs2 := g.2
  rw [sizes_app] at hs2
  refine ⟨fun u hu => ?_, ?_⟩
  · have h : u ∈ a ∨ u = t ∨ u ∈ c := by
      rcases List.mem_append.mp hu with hu | hu
      · rcases List.mem_append.mp hu with hu | hu
        · exact .inl hu
        · exact .inr (.inl (List.mem_singleton.mp hu))
      · exact .inr (.inr hu)
    rcases h with h | rfl | h
    · exact (g.1 u (List.mem_append_left _ h)).up (Nat.le_refl _) (by omega) (Nat.le_refl _)
    · exact gt.up hm (Nat.le_refl _) (Nat.le_refl _)
    · exact (g.1 u (List.mem_append_right _ h)).up (Nat.le_refl _) (by omega) (Nat.le_refl _)
  · rw [sizes_app, sizes_app]
    simp only [sizes]
    omega
theorem GMs.up {f b : Int} {lo hi hi' d d' : Nat} {ts : List Tr} (g : GMs f b lo hi d ts) (h2 : hi ≤ hi') (h3 : d ≤ d') : GMs f b lo hi' d' ts := ⟨fun t ht => (g.1 t ht).up (Nat.le_refl _) h2 h3, Nat.le_trans g.2 h2⟩
theorem GMs.app {f b : Int} {lo mid hi d : Nat} {a : List Tr} {t : Tr} (g : GMs f b lo mid d a) (gt : GM f b mid hi d t) (hs : t.size + mid ≤ hi) (hm : lo ≤ mid) : GMs f b lo hi d (a ++ [t]) := by
  have := GMs.ins (a := a) (c := []) (by rw [List.append_nil]; exact g) gt hs hm
  rw [List.append_nil] at this
  exact this
theorem trvs_ins {H : Hp} {xs : List V} {ts : List Tr} {v : V} {t : Tr} {i : Nat} (h : TrVs H xs ts) (hv : TrV H v t) : TrVs H (xs.take i ++ [v] ++ xs.drop i) (ts.take i ++ [t] ++ ts.drop i) := by
  have tk : ∀ {xs : List V} {ts : List Tr} (i : Nat), TrVs H xs ts → TrVs H (xs.take i) (ts.take i) := by
    intro xs ts i h
    induction i generalizing xs ts with
    | zero => simp; exact .nil
    | succ i ih =>
      cases h with
      | nil => exact .nil
      | cons a r => exact .cons a (ih r)
  have dr : ∀ {xs : List V} {ts : List Tr} (i : Nat), TrVs H xs ts → TrVs H (xs.drop i) (ts.drop i) := by
    intro xs ts i h
    induction i generalizing xs ts with
    | zero => exact h
    | succ i ih =>
      cases h with
      | nil => exact .nil
      | cons a r => exact ih r
  exact trvs_app (trvs_app (tk i h) (.cons hv .nil)) (dr i h)
end NL

namespace K54
open PySem L2 Evl NL
def top (i : Nat) : Stmt := PySem.Challenge.pw_nearlocks_k54_even_plans.main.body.getD i (.Pass ⟨0, 0, 0, 0⟩)
abbrev s_hands_of : Stmt := top 1
abbrev s_all_in : Stmt := top 2
abbrev s_all_from : Stmt := top 3
abbrev s_member_turn : Stmt := top 5
abbrev s_is_even : Stmt := top 6
abbrev s_is_level : Stmt := top 7
abbrev s__law_hand : Stmt := top 9
abbrev s__law_take : Stmt := top 10
abbrev s__law_pick : Stmt := top 11
abbrev s__law_name : Stmt := top 12
abbrev s__law_lot : Stmt := top 13
abbrev s__law_upper : Stmt := top 14
abbrev s__law_plan : Stmt := top 15
abbrev s__law_hands : Stmt := top 16
abbrev s__law_groups : Stmt := top 17
abbrev s__law_turn : Stmt := top 18
abbrev s__law_is_even : Stmt := top 19
abbrev s__law_otherwise : Stmt := top 20
abbrev s__law_bent : Stmt := top 21
abbrev s_law : Stmt := top 22
abbrev N_hands_of : List Str := ["plan", "name", "bound", "path"]
theorem sc_hands_of : FnScope N_hands_of ["plan"] (defScope s_hands_of) := ⟨rfl, rfl, rfl, by decide +kernel, rfl, by decide +kernel, by decide +kernel⟩
abbrev N_all_in : List Str := ["plan"]
theorem sc_all_in : FnScope N_all_in ["plan"] (defScope s_all_in) := ⟨rfl, rfl, rfl, by decide +kernel, rfl, by decide +kernel, by decide +kernel⟩
abbrev N_all_from : List Str := ["group", "around", "name", "bound", "members", "rows", "inside", "member"]
theorem sc_all_from : FnScope N_all_from ["group", "around"] (defScope s_all_from) := ⟨rfl, rfl, rfl, by decide +kernel, rfl, by decide +kernel, by decide +kernel⟩
abbrev N_member_turn : List Str := ["member", "name", "bound", "members", "one"]
theorem sc_member_turn : FnScope N_member_turn ["member"] (defScope s_member_turn) := ⟨rfl, rfl, rfl, by decide +kernel, rfl, by decide +kernel, by decide +kernel⟩
abbrev N_is_even : List Str := ["plan", "member"]
theorem sc_is_even : FnScope N_is_even ["plan"] (defScope s_is_even) := ⟨rfl, rfl, rfl, by decide +kernel, rfl, by decide +kernel, by decide +kernel⟩
abbrev N_is_level : List Str := ["member", "turns", "one"]
theorem sc_is_level : FnScope N_is_level ["member"] (defScope s_is_level) := ⟨rfl, rfl, rfl, by decide +kernel, rfl, by decide +kernel, by decide +kernel⟩
abbrev N__law_hand : List Str := ["_law_script", "_law_k", "_law_cell", "_law_mixed"]
theorem sc__law_hand : FnScope N__law_hand ["_law_script", "_law_k"] (defScope s__law_hand) := ⟨rfl, rfl, rfl, by decide +kernel, rfl, by decide +kernel, by decide +kernel⟩
abbrev N__law_take : List Str := ["_law_hand_here", "_law_many", "_law_mixed", "_law_digit"]
theorem sc__law_take : FnScope N__law_take ["_law_hand_here", "_law_many"] (defScope s__law_take) := ⟨rfl, rfl, rfl, by decide +kernel, rfl, by decide +kernel, by decide +kernel⟩
abbrev N__law_pick : List Str := ["_law_hand_here", "_law_some"]
theorem sc__law_pick : FnScope N__law_pick ["_law_hand_here", "_law_some"] (defScope s__law_pick) := ⟨rfl, rfl, rfl, by decide +kernel, rfl, by decide +kernel, by decide +kernel⟩
abbrev N__law_name : List Str := ["_law_box", "_law_letters"]
theorem sc__law_name : FnScope N__law_name ["_law_box"] (defScope s__law_name) := ⟨rfl, rfl, rfl, by decide +kernel, rfl, by decide +kernel, by decide +kernel⟩
abbrev N__law_lot : List Str := ["_law_box", "_law_many", "_law_bound", "_law_name_here", "_law_k"]
theorem sc__law_lot : FnScope N__law_lot ["_law_box", "_law_many", "_law_bound"] (defScope s__law_lot) := ⟨rfl, rfl, rfl, by decide +kernel, rfl, by decide +kernel, by decide +kernel⟩
abbrev N__law_upper : List Str := ["_law_hand_here", "_law_box", "_law_even", "_law_name_here", "_law_bound", "_law_inner", "_law_some", "_law_k"]
theorem sc__law_upper : FnScope N__law_upper ["_law_hand_here", "_law_box", "_law_even"] (defScope s__law_upper) := ⟨rfl, rfl, rfl, by decide +kernel, rfl, by decide +kernel, by decide +kernel⟩
abbrev N__law_plan : List Str := ["_law_hand_here", "_law_even", "_law_box", "_law_way", "_law_whole", "_law_some", "_law_k"]
theorem sc__law_plan : FnScope N__law_plan ["_law_hand_here", "_law_even"] (defScope s__law_plan) := ⟨rfl, rfl, rfl, by decide +kernel, rfl, by decide +kernel, by decide +kernel⟩
abbrev N__law_hands : List Str := ["_law_plan_here", "_law_found", "_law_member"]
theorem sc__law_hands : FnScope N__law_hands ["_law_plan_here"] (defScope s__law_hands) := ⟨rfl, rfl, rfl, by decide +kernel, rfl, by decide +kernel, by decide +kernel⟩
abbrev N__law_groups : List Str := ["_law_plan_here", "_law_found", "_law_member"]
theorem sc__law_groups : FnScope N__law_groups ["_law_plan_here"] (defScope s__law_groups) := ⟨rfl, rfl, rfl, by decide +kernel, rfl, by decide +kernel, by decide +kernel⟩
abbrev N__law_turn : List Str := ["_law_member", "_law_inner"]
theorem sc__law_turn : FnScope N__law_turn ["_law_member"] (defScope s__law_turn) := ⟨rfl, rfl, rfl, by decide +kernel, rfl, by decide +kernel, by decide +kernel⟩
abbrev N__law_is_even : List Str := ["_law_plan_here", "_law_inner", "_law_group", "_law_member"]
theorem sc__law_is_even : FnScope N__law_is_even ["_law_plan_here"] (defScope s__law_is_even) := ⟨rfl, rfl, rfl, by decide +kernel, rfl, by decide +kernel, by decide +kernel⟩
abbrev N__law_otherwise : List Str := ["_law_hand_here", "_law_plan_here", "_law_box", "_law_groups_here"]
theorem sc__law_otherwise : FnScope N__law_otherwise ["_law_hand_here", "_law_plan_here", "_law_box"] (defScope s__law_otherwise) := ⟨rfl, rfl, rfl, by decide +kernel, rfl, by decide +kernel, by decide +kernel⟩
abbrev N__law_bent : List Str := ["_law_plan_here", "_law_name_here", "_law_way", "_law_bound", "_law_box", "_law_some", "_law_member"]
theorem sc__law_bent : FnScope N__law_bent ["_law_plan_here", "_law_name_here", "_law_way", "_law_bound", "_law_box"] (defScope s__law_bent) := ⟨rfl, rfl, rfl, by decide +kernel, rfl, by decide +kernel, by decide +kernel⟩
abbrev N_law : List Str := ["_law_script", "_law_k", "_law_hand_here", "_law_turn_here", "_law_plan_here", "_law_some", "_law_kept", "_law_heard"]
theorem sc_law : FnScope N_law ["_law_script"] (defScope s_law) := ⟨rfl, rfl, rfl, by decide +kernel, rfl, by decide +kernel, by decide +kernel⟩
/-! ### the facts of the top -/
structure Tp (w : World) (K : PySem.W.Frag) (mg : Str → Option Value) where
  f_hands_of : Addr
  d_hands_of : FuncData
  F_hands_of : Fun K "hands_of" "hands_of" s_hands_of f_hands_of d_hands_of
  m_hands_of : mg "hands_of" = some (.ref f_hands_of)
  f_all_in : Addr
  d_all_in : FuncData
  F_all_in : Fun K "all_in" "all_in" s_all_in f_all_in d_all_in
  m_all_in : mg "all_in" = some (.ref f_all_in)
  f_all_from : Addr
  d_all_from : FuncData
  F_all_from : Fun K "all_from" "all_from" s_all_from f_all_from d_all_from
  m_all_from : mg "all_from" = some (.ref f_all_from)
  f_member_turn : Addr
  d_member_turn : FuncData
  F_member_turn : Fun K "member_turn" "member_turn" s_member_turn f_member_turn d_member_turn
  m_member_turn : mg "member_turn" = some (.ref f_member_turn)
  f_is_even : Addr
  d_is_even : FuncData
  F_is_even : Fun K "is_even" "is_even" s_is_even f_is_even d_is_even
  m_is_even : mg "is_even" = some (.ref f_is_even)
  f_is_level : Addr
  d_is_level : FuncData
  F_is_level : Fun K "is_level" "is_level" s_is_level f_is_level d_is_level
  m_is_level : mg "is_level" = some (.ref f_is_level)
  f__law_hand : Addr
  d__law_hand : FuncData
  F__law_hand : Fun K "_law_hand" "_law_hand" s__law_hand f__law_hand d__law_hand
  m__law_hand : mg "_law_hand" = some (.ref f__law_hand)
  f__law_take : Addr
  d__law_take : FuncData
  F__law_take : Fun K "_law_take" "_law_take" s__law_take f__law_take d__law_take
  m__law_take : mg "_law_take" = some (.ref f__law_take)
  f__law_pick : Addr
  d__law_pick : FuncData
  F__law_pick : Fun K "_law_pick" "_law_pick" s__law_pick f__law_pick d__law_pick
  m__law_pick : mg "_law_pick" = some (.ref f__law_pick)
  f__law_name : Addr
  d__law_name : FuncData
  F__law_name : Fun K "_law_name" "_law_name" s__law_name f__law_name d__law_name
  m__law_name : mg "_law_name" = some (.ref f__law_name)
  f__law_lot : Addr
  d__law_lot : FuncData
  F__law_lot : Fun K "_law_lot" "_law_lot" s__law_lot f__law_lot d__law_lot
  m__law_lot : mg "_law_lot" = some (.ref f__law_lot)
  f__law_upper : Addr
  d__law_upper : FuncData
  F__law_upper : Fun K "_law_upper" "_law_upper" s__law_upper f__law_upper d__law_upper
  m__law_upper : mg "_law_upper" = some (.ref f__law_upper)
  f__law_plan : Addr
  d__law_plan : FuncData
  F__law_plan : Fun K "_law_plan" "_law_plan" s__law_plan f__law_plan d__law_plan
  m__law_plan : mg "_law_plan" = some (.ref f__law_plan)
  f__law_hands : Addr
  d__law_hands : FuncData
  F__law_hands : Fun K "_law_hands" "_law_hands" s__law_hands f__law_hands d__law_hands
  m__law_hands : mg "_law_hands" = some (.ref f__law_hands)
  f__law_groups : Addr
  d__law_groups : FuncData
  F__law_groups : Fun K "_law_groups" "_law_groups" s__law_groups f__law_groups d__law_groups
  m__law_groups : mg "_law_groups" = some (.ref f__law_groups)
  f__law_turn : Addr
  d__law_turn : FuncData
  F__law_turn : Fun K "_law_turn" "_law_turn" s__law_turn f__law_turn d__law_turn
  m__law_turn : mg "_law_turn" = some (.ref f__law_turn)
  f__law_is_even : Addr
  d__law_is_even : FuncData
  F__law_is_even : Fun K "_law_is_even" "_law_is_even" s__law_is_even f__law_is_even d__law_is_even
  m__law_is_even : mg "_law_is_even" = some (.ref f__law_is_even)
  f__law_otherwise : Addr
  d__law_otherwise : FuncData
  F__law_otherwise : Fun K "_law_otherwise" "_law_otherwise" s__law_otherwise f__law_otherwise d__law_otherwise
  m__law_otherwise : mg "_law_otherwise" = some (.ref f__law_otherwise)
  f__law_bent : Addr
  d__law_bent : FuncData
  F__law_bent : Fun K "_law_bent" "_law_bent" s__law_bent f__law_bent d__law_bent
  m__law_bent : mg "_law_bent" = some (.ref f__law_bent)
  f_law : Addr
  d_law : FuncData
  F_law : Fun K "law" "law" s_law f_law d_law
  m_law : mg "law" = some (.ref f_law)
  z_abs : mg "abs" = none
  z_all : mg "all" = none
  z_bool : mg "bool" = none
  z_int : mg "int" = none
  z_isinstance : mg "isinstance" = none
  z_len : mg "len" = none
  z_max : mg "max" = none
  z_min : mg "min" = none
  z_range : mg "range" = none
  z_repr : mg "repr" = none
  z_set : mg "set" = none
  z_str : mg "str" = none
  z_tuple : mg "tuple" = none
theorem b_hands_of {w : World} {K : PySem.W.Frag} {mg : Str → Option Value} (T : Tp w K mg) : Binds K T.d_hands_of ["plan"] [] := T.F_hands_of.binds fun _ _ _ _ _ _ us hl => match us, hl with | [_], _ => rfl
theorem b_all_in {w : World} {K : PySem.W.Frag} {mg : Str → Option Value} (T : Tp w K mg) : Binds K T.d_all_in ["plan"] [] := T.F_all_in.binds fun _ _ _ _ _ _ us hl => match us, hl with | [_], _ => rfl
theorem b_all_from {w : World} {K : PySem.W.Frag} {mg : Str → Option Value} (T : Tp w K mg) : Binds K T.d_all_from ["group", "around"] [] := T.F_all_from.binds fun _ _ _ _ _ _ us hl => match us, hl with | [_, _], _ => rfl
theorem b_member_turn {w : World} {K : PySem.W.Frag} {mg : Str → Option Value} (T : Tp w K mg) : Binds K T.d_member_turn ["member"] [] := T.F_member_turn.binds fun _ _ _ _ _ _ us hl => match us, hl with | [_], _ => rfl
theorem b_is_even {w : World} {K : PySem.W.Frag} {mg : Str → Option Value} (T : Tp w K mg) : Binds K T.d_is_even ["plan"] [] := T.F_is_even.binds fun _ _ _ _ _ _ us hl => match us, hl with | [_], _ => rfl
theorem b_is_level {w : World} {K : PySem.W.Frag} {mg : Str → Option Value} (T : Tp w K mg) : Binds K T.d_is_level ["member"] [] := T.F_is_level.binds fun _ _ _ _ _ _ us hl => match us, hl with | [_], _ => rfl
theorem b__law_hand {w : World} {K : PySem.W.Frag} {mg : Str → Option Value} (T : Tp w K mg) : Binds K T.d__law_hand ["_law_script", "_law_k"] [] := T.F__law_hand.binds fun _ _ _ _ _ _ us hl => match us, hl with | [_, _], _ => rfl
theorem b__law_take {w : World} {K : PySem.W.Frag} {mg : Str → Option Value} (T : Tp w K mg) : Binds K T.d__law_take ["_law_hand_here", "_law_many"] [] := T.F__law_take.binds fun _ _ _ _ _ _ us hl => match us, hl with | [_, _], _ => rfl
theorem b__law_pick {w : World} {K : PySem.W.Frag} {mg : Str → Option Value} (T : Tp w K mg) : Binds K T.d__law_pick ["_law_hand_here", "_law_some"] [] := T.F__law_pick.binds fun _ _ _ _ _ _ us hl => match us, hl with | [_, _], _ => rfl
theorem b__law_name {w : World} {K : PySem.W.Frag} {mg : Str → Option Value} (T : Tp w K mg) : Binds K T.d__law_name ["_law_box"] [] := T.F__law_name.binds fun _ _ _ _ _ _ us hl => match us, hl with | [_], _ => rfl
theorem b__law_lot {w : World} {K : PySem.W.Frag} {mg : Str → Option Value} (T : Tp w K mg) : Binds K T.d__law_lot ["_law_box", "_law_many", "_law_bound"] [] := T.F__law_lot.binds fun _ _ _ _ _ _ us hl => match us, hl with | [_, _, _], _ => rfl
theorem b__law_upper {w : World} {K : PySem.W.Frag} {mg : Str → Option Value} (T : Tp w K mg) : Binds K T.d__law_upper ["_law_hand_here", "_law_box", "_law_even"] [] := T.F__law_upper.binds fun _ _ _ _ _ _ us hl => match us, hl with | [_, _, _], _ => rfl
theorem b__law_plan {w : World} {K : PySem.W.Frag} {mg : Str → Option Value} (T : Tp w K mg) : Binds K T.d__law_plan ["_law_hand_here", "_law_even"] [] := T.F__law_plan.binds fun _ _ _ _ _ _ us hl => match us, hl with | [_, _], _ => rfl
theorem b__law_hands {w : World} {K : PySem.W.Frag} {mg : Str → Option Value} (T : Tp w K mg) : Binds K T.d__law_hands ["_law_plan_here"] [] := T.F__law_hands.binds fun _ _ _ _ _ _ us hl => match us, hl with | [_], _ => rfl
theorem b__law_groups {w : World} {K : PySem.W.Frag} {mg : Str → Option Value} (T : Tp w K mg) : Binds K T.d__law_groups ["_law_plan_here"] [] := T.F__law_groups.binds fun _ _ _ _ _ _ us hl => match us, hl with | [_], _ => rfl
theorem b__law_turn {w : World} {K : PySem.W.Frag} {mg : Str → Option Value} (T : Tp w K mg) : Binds K T.d__law_turn ["_law_member"] [] := T.F__law_turn.binds fun _ _ _ _ _ _ us hl => match us, hl with | [_], _ => rfl
theorem b__law_is_even {w : World} {K : PySem.W.Frag} {mg : Str → Option Value} (T : Tp w K mg) : Binds K T.d__law_is_even ["_law_plan_here"] [] := T.F__law_is_even.binds fun _ _ _ _ _ _ us hl => match us, hl with | [_], _ => rfl
theorem b__law_otherwise {w : World} {K : PySem.W.Frag} {mg : Str → Option Value} (T : Tp w K mg) : Binds K T.d__law_otherwise ["_law_hand_here", "_law_plan_here", "_law_box"] [] := T.F__law_otherwise.binds fun _ _ _ _ _ _ us hl => match us, hl with | [_, _, _], _ => rfl
theorem b__law_bent {w : World} {K : PySem.W.Frag} {mg : Str → Option Value} (T : Tp w K mg) : Binds K T.d__law_bent ["_law_plan_here", "_law_name_here", "_law_way", "_law_bound", "_law_box"] [] := T.F__law_bent.binds fun _ _ _ _ _ _ us hl => match us, hl with | [_, _, _, _, _], _ => rfl
theorem b_law {w : World} {K : PySem.W.Frag} {mg : Str → Option Value} (T : Tp w K mg) : Binds K T.d_law ["_law_script"] [] := T.F_law.binds fun _ _ _ _ _ _ us hl => match us, hl with | [_], _ => rfl

/-! ### the program's rows of a plan -/
def spAF (K : PySem.W.Frag) (d : Nat) : Sp := fun vs H Q _ => ∃ (v : V) (pa : Addr) (n : Str) (b : Int) (ms : List Tr) (p : List Str), vs = [v, .ref pa] ∧ TrV H v (.grp n b ms) ∧ H pa = some (.tup (p.map V.str)) ∧ (Tr.grp n b ms).deep ≤ d ∧ (Tr.grp n b ms).size ≤ 1000 ∧ p.length + d ≤ 1000 ∧
  ∀ r xs H', Ex H H' → H r = none → H' r = some (.lst xs) → RowsB H' xs ((Tr.grp n b ms).rows p) → Q (.ref r) H'
def spAll (K : PySem.W.Frag) : Sp := fun vs H Q _ => ∃ (v : V) (n : Str) (b : Int) (ms : List Tr), vs = [v] ∧ TrV H v (.grp n b ms) ∧ (Tr.grp n b ms).deep ≤ 12 ∧ (Tr.grp n b ms).size ≤ 1000 ∧
  ∀ r xs H', Ex H H' → H r = none → H' r = some (.lst xs) → RowsB H' xs ((Tr.grp n b ms).rows []) → Q (.ref r) H'
def spNames (K : PySem.W.Frag) (f : Tr → List Str) : Sp := fun vs H Q _ => ∃ (v : V) (n : Str) (b : Int) (ms : List Tr), vs = [v] ∧ TrV H v (.grp n b ms) ∧ (Tr.grp n b ms).deep ≤ 12 ∧ (Tr.grp n b ms).size ≤ 1000 ∧
  ∀ a H', Ex H H' → H' a = some (.tup ((f (.grp n b ms)).map V.str)) → Q (.ref a) H'
def spPath (K : PySem.W.Frag) : Sp := fun vs H Q _ => ∃ (v : V) (n : Str) (b : Int) (ms : List Tr) (x : Str) (r : Rw), vs = [v, .str x] ∧ TrV H v (.grp n b ms) ∧ (Tr.grp n b ms).deep ≤ 12 ∧ (Tr.grp n b ms).size ≤ 1000 ∧
  ((Tr.grp n b ms).told []).find? (fun r => decide (r.1 = x)) = some r ∧ ∀ a H', Ex H H' → H' a = some (.tup (r.2.2.map V.str)) → Q (.ref a) H'
section
variable {P : Program} {w : World} {K : PySem.W.Frag} {mg : Str → Option Value} {base : Heap}
theorem af_none (T : Tp w K mg) : FnOk P w K mg base CX0 0 T.f_all_from T.d_all_from ["group", "around"] (spAF K 0) := by
  have no : ∀ vs H Q E, ¬ spAF K 0 vs H Q E := fun vs H Q E h => by
    obtain ⟨v, pa, n, b, ms, p, _, _, _, hd, _⟩ := h
    simp [Tr.deep] at hd
  exact ⟨fun vs H Q E h => (no vs H Q E h).elim, fun A outer s H args us vs Q E _ _ _ _ h => (no vs H Q E h).elim⟩
theorem af_more (T : Tp w K mg) {d : Nat} (ih : FnOk P w K mg base CX0 d T.f_all_from T.d_all_from ["group", "around"] (spAF K d)) : FnOk P w K mg base CX0 (d + 1) T.f_all_from T.d_all_from ["group", "around"] (spAF K (d + 1)) := by
  refine T.F_all_from.ok sc_all_from (fun vs H Q E h => ?_) (fun cdv A outer s H vs Q E hr h => ?_)
  · obtain ⟨v, pa, n, b, ms, p, rfl, _⟩ := h
    rfl
  obtain ⟨v, pa, n, b, ms, p, rfl, hv, hpa, hdeep, hsize, hpl, q⟩ := h
  cases hv with
  | grp h1 h2 h3 =>
  rename_i a m xs
  refine ⟨_, (pss_cons (ps_asg (pv 0) (pg_tup rfl (pgs_cons (pg_name (i := 2) sc_all_from.nd rfl (Or.inl rfl)) (pgs_cons (pg_name (i := 3) sc_all_from.nd rfl (Or.inl rfl)) (pgs_cons (pg_name (i := 4) sc_all_from.nd rfl (Or.inl rfl)) pgs_nil)))))
  (pss_cons (ps_set (i := 5) sc_all_from.nd rfl (Or.inl rfl) (pe_lst (pa_cons (pe_tup (pa_cons (pv 2) (pa_cons (pv 3) (pa_cons (pv 1) pa_nil (star1 rfl)) (star1 rfl)) (star1 rfl))) pa_nil (star1 rfl))))
  (pss_cons (ps_set (i := 6) sc_all_from.nd rfl (Or.inl rfl) (pe_tup (pa_cons (pv 2) (StX.pa_star (pv 1) pa_nil) (star1 rfl))))
  (pss_cons (ps_for PassesOwn.never rfl (pi_tup (pv 4)) (pg_name (i := 7) sc_all_from.nd rfl (Or.inl rfl)) (pss_one (ps_if (pt_val (pe_callB (isiK (K := K) rfl) rfl T.z_isinstance (by decide +kernel) (pa_cons (pv 7) (pa_cons (pe_bltn (v := .ty "str") rfl T.z_str (by decide +kernel) rfl) pa_nil (star1 rfl)) (star1 rfl)) (by decide) (by decide) (star1 rfl) (starAll rfl))) (pss_one (ps_expr (pe_bm PySem.F.plainAttrs_list PySem.F.slot_list_append PySem.F.type_list_append mt_append (pv 5) (pa_cons (pe_tup (pa_cons (pv 7) (pa_cons pe_non (pa_cons (pv 6) pa_nil (star1 rfl)) (star1 rfl)) (star1 rfl))) pa_nil (star1 rfl))))) (pss_one (ps_expr (pe_bm PySem.F.plainAttrs_list PySem.F.slot_list_extend PySem.F.type_list_extend mt_extend (pv 5) (pa_cons (pe_call ih hr rfl T.m_all_from T.F_all_from.kp (b_all_from T) .nil pass0 (pa_cons (pv 7) (pa_cons (pv 6) pa_nil (star1 rfl)) (star1 rfl)) (by decide) (star1 rfl) (starAll rfl)) pa_nil (star1 rfl))))))))
  (pss_one (ps_ret (pv 5))))))), ?_⟩
  -- name, bound, members = group
  refine q_asgG ?_
  refine ⟨_, rfl, a, _, rfl, st_of h1, rfl, _, _, rfl, _, _, rfl, _, _, rfl, rfl, ?_⟩
  -- rows = [(name, bound, around)]
  refine q_asgP ?_
  refine ⟨_, rfl, _, rfl, _, rfl, (by show 3 ≤ sizeLine; decide), fun t1 ht1 => ⟨(by show 1 ≤ sizeLine; decide), fun r hr1 => ?_⟩⟩
  generalize hH1 : upd (upd H t1 (.tup [.str n, .int b, .ref pa])) r (.lst [.ref t1]) = H1
  have e1 : Ex H H1 := by rw [← hH1]; exact (Ex.new ht1).trans (Ex.new hr1)
  have rH : H r = none := fresh_back (Ex.new ht1) hr1
  have hr2 : H1 r = some (.lst [.ref t1]) := by rw [← hH1]; exact upd_same
  have row1 : RowB H1 (.ref t1) (n, some b, p) := ⟨t1, pa, rfl, by rw [← hH1]; exact (Ex.new hr1) _ _ upd_same, e1 _ _ hpa⟩
  -- inside = (name, *around)
  refine q_asgP ?_
  refine ⟨_, rfl, _, rfl, pa, p.map V.str, rfl, Or.inl (st_of (e1 _ _ hpa)), sz_of (by simp; omega), fun ia hia => ?_⟩
  generalize hH2 : upd H1 ia (.tup (V.str n :: (p.map V.str ++ []))) = H2
  have e2 : Ex H1 H2 := by rw [← hH2]; exact Ex.new hia
  have hin : H2 ia = some (.tup ((n :: p).map V.str)) := by
    rw [← hH2, upd_same, List.append_nil]
    rfl
  have e12 := e1.trans e2
  have hdp : deeps ms ≤ d := by simp only [Tr.deep] at hdeep; omega
  have hsz : sizes ms ≤ 1000 := by simp only [Tr.size] at hsize; omega
  -- for member in members
  refine q_forT (K := K) (a := m) (xs := xs) (ev_var rfl) (st_of (e12 _ _ h2)) (fun i σ' H' => Ex H H' ∧ H' ia = some (.tup ((n :: p).map V.str)) ∧ ∃ ys c, σ' = [some (.ref a), some (.ref pa), some (.str n), some (.int b), some (.ref m), some (.ref r), some (.ref ia), c] ∧ H' r = some (.lst ys) ∧ RowsB H' ys ((n, some b, p) :: rowss (ms.take i) (n :: p))) ?_ ?_ ?_ ?_
  · intro H3 e3
    refine ⟨e12.trans e3, e3 _ _ hin, [.ref t1], none, rfl, e3 _ _ (e2 _ _ hr2), ?_⟩
    simp only [List.take_zero, rowss]
    exact RowsB.one (row1.tk (TK.ex (e2.trans e3)))
  · intro i σ' H' _ hP
    exact st_of (hP.1 _ _ h2)
  · intro i x σ' H' hx hP
    obtain ⟨e3, hin3, ys, c, rfl, hr3, hrows⟩ := hP
    obtain ⟨t, ht, tv⟩ := trvs_get h3 hx
    have tv3 := trv_tk (TK.ex e3) t x tv
    have hyl : ys.length ≤ 1001 := by
      have := hrows.len
      simp only [List.length_cons, rowss_len] at this
      have := sizes_take ms i
      omega
    have hstep : (n, some b, p) :: rowss (ms.take (i + 1)) (n :: p) = ((n, some b, p) :: rowss (ms.take i) (n :: p)) ++ t.rows (n :: p) := by
      rw [rowss_take ms i t (n :: p) ht]
      rfl
    refine s_if (et_B (ev_isHand (ev_var rfl) tv3)) (fun hb H4 e4 => ?_) (fun hb H4 e4 => ?_)
    · cases tv3 with
      | hand nm =>
        refine ⟨.ref r, rfl, Or.inl ⟨rfl, ys, sq_of (e4 _ _ hr3)⟩, _, rfl, _, rfl, (by show 3 ≤ sizeLine; decide), fun t2 ht2 => ?_⟩
        refine ⟨r, ys, _, rfl, rfl, (Ex.new ht2) _ _ (e4 _ _ hr3), sz_lt (by omega), ?_⟩
        generalize hH5 : upd H4 t2 (.tup [.str nm, .non, .ref ia]) = H5
        have e5 : Ex H4 H5 := by rw [← hH5]; exact Ex.new ht2
        have hr5 : H5 r = some (.lst ys) := e5 _ _ (e4 _ _ hr3)
        have k5 : TK H5 (upd H5 r (.lst (ys ++ [.ref t2]))) := TK.lst hr5
        refine ⟨Ex.mut ((e3.trans e4).trans e5) rH, k5 _ _ (e5 _ _ (e4 _ _ hin3)), ys ++ [.ref t2], _, rfl, upd_same, ?_⟩
        rw [hstep]
        refine RowsB.tk k5 ((hrows.tk (TK.ex (e4.trans e5))).app (RowsB.one ⟨t2, ia, rfl, by rw [← hH5]; exact upd_same, e5 _ _ (e4 _ _ hin3)⟩))
      | grp _ _ _ => cases hb
    · cases tv3 with
      | hand nm => cases hb
      | grp g1 g2 g3 =>
        rename_i a' m' n' b' xs' ms'
        refine ⟨.ref r, rfl, Or.inl ⟨rfl, ys, sq_of (e4 _ _ hr3)⟩, _, rfl, _, rfl, .ref a', ia, n', b', ms', n :: p, rfl, trv_tk (TK.ex e4) _ _ (.grp g1 g2 g3), e4 _ _ hin3, ?_, ?_, ?_, fun b2 zs H5 e5 hb2 hb5 hrw => ?_⟩
        · have := deeps_mem ht
          omega
        · have := sizes_mem ht
          omega
        · simp only [List.length_cons]
          omega
        have hr5 : H5 r = some (.lst ys) := e5 _ _ (e4 _ _ hr3)
        have hzl := hrw.len
        rw [rows_len] at hzl
        have := sizes_mem ht
        refine ⟨r, b2, ys, zs, rfl, rfl, hr5, hb5, sz_of (by omega), ?_⟩
        have k5 : TK H5 (upd H5 r (.lst (ys ++ zs))) := TK.lst hr5
        refine ⟨Ex.mut ((e3.trans e4).trans e5) rH, k5 _ _ (e5 _ _ (e4 _ _ hin3)), ys ++ zs, _, rfl, upd_same, ?_⟩
        rw [hstep]
        exact RowsB.tk k5 ((hrows.tk (TK.ex (e4.trans e5))).app hrw)
  · intro σ' H' hP
    obtain ⟨e3, hin3, ys, c, rfl, hr3, hrows⟩ := hP
    rw [trvs_len h3, List.take_length] at hrows
    refine s_ret (v := .ref r) (ev_var rfl) fun H4 e4 => q r ys H4 (e3.trans e4) rH (e4 _ _ hr3) ?_
    simp only [Tr.rows]
    exact hrows.tk (TK.ex e4)
theorem af_all (T : Tp w K mg) : ∀ d, FnOk P w K mg base CX0 d T.f_all_from T.d_all_from ["group", "around"] (spAF K d)
  | 0 => af_none T
  | d + 1 => af_more T (af_all T d)
theorem ok_all_from (T : Tp w K mg) : FnOk P w K mg base CX0 12 T.f_all_from T.d_all_from ["group", "around"] (spAF K 12) := af_all T 12
theorem ok_all_in (T : Tp w K mg) : FnOk P w K mg base CX0 13 T.f_all_in T.d_all_in ["plan"] (spAll K) := by
  refine T.F_all_in.ok sc_all_in (fun vs H Q E h => ?_) (fun cdv A outer s H vs Q E hr h => ?_)
  · obtain ⟨v, n, b, ms, rfl, _⟩ := h
    rfl
  obtain ⟨v, n, b, ms, rfl, hv, hd, hs, q⟩ := h
  refine ⟨_, (pss_one (ps_ret (pe_call (ok_all_from T) (hr.mono (by decide)) rfl T.m_all_from T.F_all_from.kp (b_all_from T) .nil pass0 (pa_cons (pv 0) (pa_cons (pe_tup pa_nil) pa_nil (star1 rfl)) (star1 rfl)) (by decide) (star1 rfl) (starAll rfl)))), ?_⟩
  refine s_retP ?_
  refine ⟨_, rfl, (by show 0 ≤ sizeLine; decide), fun t ht => ⟨v, t, n, b, ms, [], rfl, trv_tk (TK.new ht) _ _ hv, upd_same, hd, hs, by decide, fun r xs H' e hr' h1 h2 => ?_⟩⟩
  exact q r xs H' ((Ex.new ht).trans e) (fresh_back (Ex.new ht) hr') h1 h2
end

section
variable {P : Program} {w : World} {K : PySem.W.Frag} {mg : Str → Option Value} {base : Heap}
theorem ok_hands_of (T : Tp w K mg) : FnOk P w K mg base CX0 14 T.f_hands_of T.d_hands_of ["plan"] (spNames K handsOf) := by
  refine T.F_hands_of.ok sc_hands_of (fun vs H Q E h => ?_) (fun cdv A outer s H vs Q E hr h => ?_)
  · obtain ⟨v, n, b, ms, rfl, _⟩ := h
    rfl
  obtain ⟨v, n, b, ms, rfl, hv, hdp, hsz, q⟩ := h
  refine ⟨_, (pss_one (ps_ret (pe_callTy call_tuple_of rfl T.z_tuple (by decide +kernel) (pa_cons (pe_lc (own := [("name", 1), ("bound", 2), ("path", 3)]) (g := gTup K 3 (gCons (gName 1) (gCons (gName 2) (gCons (gName 3) gNil)))) rfl sc_hands_of.nd (pi_list (pe_call (ok_all_in T) (hr.mono (by decide)) rfl T.m_all_in T.F_all_in.kp (b_all_in T) .nil pass0 (pa_cons (pv 0) pa_nil (star1 rfl)) (by decide) (star1 rfl) (starAll rfl))) (blkOk_by (N := N_hands_of) (sc := defScope s_hands_of) (by decide +kernel)) (fun _ _ _ _ _ => (pg_tup rfl (pgs_cons (pg_name (i := 1) sc_hands_of.nd rfl (Or.inl rfl)) (pgs_cons (pg_name (i := 2) sc_hands_of.nd rfl (Or.inl rfl)) (pgs_cons (pg_name (i := 3) sc_hands_of.nd rfl (Or.inl rfl)) pgs_nil))))) (fun _ _ _ _ _ => (pts_one (pt_cmp (pc_isN (pv 2))))) (fun _ _ _ _ _ => (pv 1))) pa_nil (star1 rfl)) (by decide) (by decide) (star1 rfl) (starAll rfl)))), ?_⟩
  refine s_retP ?_
  refine ⟨_, rfl, v, n, b, ms, rfl, hv, hdp, hsz, fun r xs H1 e1 hr1 h1 rows => ⟨r, rfl, ⟨xs, sq_of h1⟩, fun D hD => ?_⟩⟩
  generalize hrs : (Tr.grp n b ms).rows [] = rs at rows
  have hlen : rs.length ≤ 1000 := by rw [← hrs, rows_len]; exact hsz
  have hxl := rows.len
  refine lc_list (K := K) (a := r) (xs := xs) (fun i H' => Ex H1 H' ∧ H' D = some (.lst (((rs.take i).filter fun r => !r.2.1.isSome).map fun r => V.str r.1))) ⟨Ex.new hD, upd_same⟩ (fun i H' _ hP => sq_of (hP.1 _ _ h1)) ?_ ?_
  · intro i x H' hx hP
    obtain ⟨e2, hacc⟩ := hP
    obtain ⟨rw', hrw, a, pa, rfl, ha, hpa⟩ := rows.get hx
    obtain ⟨nm, g, p⟩ := rw'
    refine ⟨a, _, rfl, st_of (e2 _ _ ha), rfl, _, _, rfl, _, _, rfl, _, _, rfl, rfl, rfl, _, rfl, _, rfl, ?_⟩
    have hl2 : (((rs.take i).filter fun r => !r.2.1.isSome).map fun r => V.str r.1).length ≤ 1000 := by
      rw [List.length_map]
      exact Nat.le_trans (List.length_filter_le _ _) (by rw [List.length_take]; omega)
    cases g with
    | none =>
      refine iteT ?_
      refine ⟨_, rfl, _, hacc, sz_lt (by omega), Ex.mut e2 hD, ?_⟩
      rw [upd_same, filter_take hrw]
      simp
    | some bd =>
      refine iteF ?_
      refine ⟨e2, ?_⟩
      rw [hacc, filter_take hrw]
      simp
  · intro H' hP
    obtain ⟨e2, hacc⟩ := hP
    rw [hxl, List.take_length] at hacc
    refine ⟨D, _, rfl, Or.inl ⟨sq_of hacc, fun t ht => ?_⟩⟩
    refine q t _ ((e1.trans e2).trans (Ex.new ht)) ?_
    rw [upd_same]
    rw [hands_rows, hrs, List.map_map]
    rfl
end

/-! ### turns, and even plans, by the program -/
def spMT (K : PySem.W.Frag) (d : Nat) : Sp := fun vs H Q _ => ∃ (v : V) (t : Tr), vs = [v] ∧ TrV H v t ∧ t.ok ∧ t.deep ≤ d ∧ d ≤ 11 ∧ t.size ≤ 1000 ∧ ∀ H', Ex H H' → Q (.int t.turn) H'
def spEven (K : PySem.W.Frag) (d : Nat) : Sp := fun vs H Q _ => ∃ (v : V) (n : Str) (b : Int) (ms : List Tr), vs = [v] ∧ TrV H v (.grp n b ms) ∧ (Tr.grp n b ms).ok ∧ (Tr.grp n b ms).deep ≤ d ∧ d ≤ 4 ∧ (Tr.grp n b ms).size ≤ 1000 ∧ ∀ H', Ex H H' → Q (.bl (levels ms)) H'
def spLevel (K : PySem.W.Frag) (d : Nat) : Sp := fun vs H Q _ => ∃ (v : V) (t : Tr), vs = [v] ∧ TrV H v t ∧ t.ok ∧ t.deep ≤ d ∧ d ≤ 4 ∧ t.size ≤ 1000 ∧ ∀ H', Ex H H' → Q (.bl t.level) H'
section
variable {P : Program} {w : World} {K : PySem.W.Frag} {mg : Str → Option Value} {base : Heap}
theorem mt_step (T : Tp w K mg) {d : Nat} {spR : Sp} (ih : FnOk P w K mg base CX0 (d + 14) T.f_member_turn T.d_member_turn ["member"] spR) (hR : ∀ k, d = k + 1 → spR = spMT K k) : FnOk P w K mg base CX0 (d + 15) T.f_member_turn T.d_member_turn ["member"] (spMT K d) := by
  refine T.F_member_turn.ok sc_member_turn (fun vs H Q E h => ?_) (fun cdv A outer s H vs Q E hr h => ?_)
  · obtain ⟨v, t, rfl, _⟩ := h
    rfl
  obtain ⟨v, t, rfl, tv, hok, hdp, hd, hsz, q⟩ := h
  refine ⟨_, (pss_cons (ps_if (PW.pt (pw_or (pt_val (pe_callB (isiK (K := K) rfl) rfl T.z_isinstance (by decide +kernel) (pa_cons (pv 0) (pa_cons (pe_bltn (v := .ty "str") rfl T.z_str (by decide +kernel) rfl) pa_nil (star1 rfl)) (star1 rfl)) (by decide) (by decide) (star1 rfl) (starAll rfl))) (pw_or1 (pt_cmpR op_eq (pe_callB (lenK (K := K) rfl) rfl T.z_len PySem.boot_len (pa_cons (pe_call (ok_hands_of T) (hr.mono (by omega)) rfl T.m_hands_of T.F_hands_of.kp (b_hands_of T) .nil pass0 (pa_cons (pv 0) pa_nil (star1 rfl)) (by decide) (star1 rfl) (starAll rfl)) pa_nil (star1 rfl)) (by decide) (by decide) (star1 rfl) (starAll rfl)) pe_int (nomark _))))) (pss_one (ps_ret pe_int)) pss_nil)
  (pss_cons (ps_asg (pv 0) (pg_tup rfl (pgs_cons (pg_name (i := 1) sc_member_turn.nd rfl (Or.inl rfl)) (pgs_cons (pg_name (i := 2) sc_member_turn.nd rfl (Or.inl rfl)) (pgs_cons (pg_name (i := 3) sc_member_turn.nd rfl (Or.inl rfl)) pgs_nil)))))
  (pss_one (ps_ret (pe_op op_mul (pv 2) (pe_callB (maxK (K := K) rfl rfl) rfl T.z_max (by decide +kernel) (pa_cons (pe_lc (own := [("one", 4)]) (g := gName 4) (tt := tYes) rfl sc_member_turn.nd (piTK (K := K) rfl (pv 3)) (blkOk_by (N := N_member_turn) (sc := defScope s_member_turn) (by decide +kernel)) (fun _ _ _ _ _ => (pg_name (i := 4) sc_member_turn.nd rfl (Or.inl rfl))) (fun _ _ _ _ _ => pts_nil) (fun _ _ _ _ _ => (pe_call ih hr rfl T.m_member_turn T.F_member_turn.kp (b_member_turn T) .nil pass0 (pa_cons (pv 4) pa_nil (star1 rfl)) (by decide) (star1 rfl) (starAll rfl)))) pa_nil (star1 rfl)) (by decide) (by decide) (star1 rfl) (starAll rfl))))))), ?_⟩
  have t1 : EvT (tB (tCB (rIsi K) (tCons (tVar 0) (tCons (tC (.ty "str")) tNil)))) (start N_member_turn [v]) H t.isHand := et_B (ev_isHand (ev_var rfl) tv)
  cases tv with
  | hand n =>
    refine q_when (b := true) (et_is (et_or (b := false) t1 fun h => by cases h) rfl) (fun _ H1 e1 => s_ret ev_c fun H2 e2 => q H2 (e1.trans e2)) (fun h => by cases h)
  | @grp a m n b xs ms h1 h2 h3 =>
    have tv : TrV H (.ref a) (.grp n b ms) := .grp h1 h2 h3
    obtain ⟨k, rfl⟩ : ∃ k, d = k + 1 := ⟨d - 1, by simp only [Tr.deep] at hdp; omega⟩
    have eR := hR k rfl
    subst eR
    have hlen : Ev (tCB (rLenS K) (tCons (tCall (spNames K handsOf) [] E0 (tCons (tVar 0) tNil)) tNil)) (start N_member_turn [.ref a]) H (.int ((Tr.grp n b ms).hn : Int)) := by
      intro H1 e1 Q' q'
      refine ⟨_, rfl, .ref a, n, b, ms, rfl, trv_tk (TK.ex e1) _ _ tv, by omega, hsz, fun p H2 e2 hp => ⟨p, _, rfl, Or.inr (st_of hp), ?_⟩⟩
      rw [List.length_map, hands_hn]
      exact q' H2 e2
    refine q_when (b := decide (hns ms = 1)) (et_is (et_or (a := false) t1 fun _ => et_test (ev_eq hlen ev_c rfl)) ?_) (fun hb H1 e1 => ?_) (fun hb H1 e1 => ?_)
    · rw [Bool.false_or]
      simp only [Tr.hn]
      refine decide_eq_decide.mpr ⟨fun z => ?_, fun z => by rw [z]; rfl⟩
      injection z with z
      omega
    · have hb := of_decide_eq_true hb
      refine s_ret ev_c fun H2 e2 => ?_
      have q2 := q H2 (e1.trans e2)
      simp only [Tr.turn] at q2
      rw [if_pos hb] at q2
      exact q2
    · have hb := of_decide_eq_false hb
      refine q_asgG ?_
      refine ⟨_, rfl, a, _, rfl, st_of (e1 _ _ h1), rfl, _, _, rfl, _, _, rfl, _, _, rfl, rfl, ?_⟩
      simp only [Tr.ok] at hok
      have hl := trvs_len h3
      have hsz2 : sizes ms ≤ 1000 := by simp only [Tr.size] at hsz; omega
      have hls := len_sizes ms
      have hdp2 : deeps ms ≤ k := by simp only [Tr.deep] at hdp; omega
      refine s_ret (ev_is (ev_I (C := CMul) (g := fun i j => .int (i * j)) (i := b) (j := maxs ms) (Or.inl ⟨by omega, by omega⟩) (ev_var rfl) (ev_maxN (ns := ms.map Tr.turn) ?_ (max_in hok.2.2.2 hok.2.2.1) max_le)) (w := .int (Tr.grp n b ms).turn) ?_) fun H2 e2 => q H2 (e1.trans e2)
      · have c := el_lcT (K := K) (σ := [some (.ref a), some (.str n), some (.int b), some (.ref m), none]) (H := H1) (a := m) (xs := xs) (tl := tVar 3) (tt := tYes) (te := tCall (spMT K k) [] E0 (tCons (tVar 4) tNil)) (j := 4) (vs := [4]) (fun _ => true) (fun i => .int (ms.getD i (.hand "")).turn) (ev_var rfl) (st_of (e1 _ _ h2)) (by omega) (fun x => rfl) (fun i x H1 e1 hx => et_yes) (fun i x H2 e2 hx _ => ?_)
        · rw [given_all, hl] at c
          have e : (List.range ms.length).map (fun i => V.int (ms.getD i (.hand "")).turn) = (ms.map Tr.turn).map V.int := by
            rw [map_range (fun t => V.int t.turn), List.map_map]
            rfl
          rw [e] at c
          exact c
        · obtain ⟨u, hu, tu⟩ := trvs_get h3 hx
          have : ms.getD i (.hand "") = u := by simp [List.getD_eq_getElem?_getD, hu]
          rw [this]
          have s1 := sizes_mem hu
          have s2 := deeps_mem hu
          exact ev_call (ea_cons (ev_var rfl) ea_nil) fun H3 e3 Q' q' E' => ⟨x, u, rfl, trv_tk (TK.ex ((e1.trans e2).trans e3)) _ _ tu, oks_get hok.2.2.2 hu, by omega, by omega, by omega, q'⟩
      · simp only [Tr.turn]
        rw [if_neg hb]
theorem mt_all (T : Tp w K mg) : ∀ d, FnOk P w K mg base CX0 (d + 15) T.f_member_turn T.d_member_turn ["member"] (spMT K d)
  | 0 => mt_step T (spR := fun _ _ _ _ => False) ⟨fun _ _ _ _ h => h.elim, fun _ _ _ _ _ _ _ _ _ _ _ _ _ h => h.elim⟩ (fun k h => by cases h)
  | d + 1 => mt_step T (mt_all T d) (fun k h => by cases h; rfl)
theorem ok_member_turn (T : Tp w K mg) : FnOk P w K mg base CX0 19 T.f_member_turn T.d_member_turn ["member"] (spMT K 4) := mt_all T 4
theorem ev_step (T : Tp w K mg) {d : Nat} {spR : Sp} (ih : FnOk P w K mg base CX0 (2 * d + 19) T.f_is_level T.d_is_level ["member"] spR) (hR : ∀ k, d = k + 1 → spR = spLevel K k) : FnOk P w K mg base CX0 (2 * d + 20) T.f_is_even T.d_is_even ["plan"] (spEven K d) := by
  refine T.F_is_even.ok sc_is_even (fun vs H Q E h => ?_) (fun cdv A outer s H vs Q E hr h => ?_)
  · obtain ⟨v, n, b, ms, rfl, _⟩ := h
    rfl
  obtain ⟨v, n, b, ms, rfl, tv, hok, hdp, hd, hsz, q⟩ := h
  refine ⟨_, (pss_one (ps_ret (pe_callB (allK (K := K) rfl rfl) rfl T.z_all (by decide +kernel) (pa_cons (pe_lc (own := [("member", 1)]) (g := gName 1) (tt := tYes) rfl sc_is_even.nd (piTK (K := K) rfl (pe_ix (ixTK (K := K) rfl) (pv 0) pe_int (fun _ _ => rfl))) (blkOk_by (N := N_is_even) (sc := defScope s_is_even) (by decide +kernel)) (fun _ _ _ _ _ => (pg_name (i := 1) sc_is_even.nd rfl (Or.inl rfl))) (fun _ _ _ _ _ => pts_nil) (fun _ _ _ _ _ => (pe_call ih hr rfl T.m_is_level T.F_is_level.kp (b_is_level T) .nil pass0 (pa_cons (pv 1) pa_nil (star1 rfl)) (by decide) (star1 rfl) (starAll rfl)))) pa_nil (star1 rfl)) (by decide) (by decide) (star1 rfl) (starAll rfl)))), ?_⟩
  cases tv with
  | @grp a m _ _ xs _ h1 h2 h3 =>
    obtain ⟨k, rfl⟩ : ∃ k, d = k + 1 := ⟨d - 1, by simp only [Tr.deep] at hdp; omega⟩
    have eR := hR k rfl
    subst eR
    simp only [Tr.ok] at hok
    have hl := trvs_len h3
    have hsz2 : sizes ms ≤ 1000 := by simp only [Tr.size] at hsz; omega
    have hls := len_sizes ms
    have hdp2 : deeps ms ≤ k := by simp only [Tr.deep] at hdp; omega
    refine s_ret (ev_is (ev_allN (bs := ms.map Tr.level) ?_) (w := .bl (levels ms)) ?_) q
    · have c := el_lcT (K := K) (σ := start N_is_even [.ref a]) (H := H) (a := m) (xs := xs) (tl := tOp (rIxT K) (tVar 0) (tC (.int 2))) (tt := tYes) (te := tCall (spLevel K k) [] E0 (tCons (tVar 1) tNil)) (j := 1) (vs := [1]) (fun _ => true) (fun i => .bl (ms.getD i (.hand "")).level) (ev_ixT (ev_var rfl) ev_c (st_of h1) rfl) (st_of h2) (by omega) (fun x => rfl) (fun i x H1 e1 hx => et_yes) (fun i x H2 e2 hx _ => ?_)
      · rw [given_all, hl] at c
        have e : (List.range ms.length).map (fun i => V.bl (ms.getD i (.hand "")).level) = (ms.map Tr.level).map V.bl := by
          rw [map_range (fun t => V.bl t.level), List.map_map]
          rfl
        rw [e] at c
        exact c
      · obtain ⟨u, hu, tu⟩ := trvs_get h3 hx
        have : ms.getD i (.hand "") = u := by simp [List.getD_eq_getElem?_getD, hu]
        rw [this]
        have s1 := sizes_mem hu
        have s2 := deeps_mem hu
        exact ev_call (ea_cons (ev_var rfl) ea_nil) fun H3 e3 Q' q' E' => ⟨x, u, rfl, trv_tk (TK.ex (e2.trans e3)) _ _ tu, oks_get hok.2.2.2 hu, by omega, by omega, by omega, q'⟩
    · rw [levels_all, List.all_map]
      rfl
theorem lv_step (T : Tp w K mg) {d : Nat} (ih : FnOk P w K mg base CX0 (2 * d + 20) T.f_is_even T.d_is_even ["plan"] (spEven K d)) : FnOk P w K mg base CX0 (2 * d + 21) T.f_is_level T.d_is_level ["member"] (spLevel K d) := by
  refine T.F_is_level.ok sc_is_level (fun vs H Q E h => ?_) (fun cdv A outer s H vs Q E hr h => ?_)
  · obtain ⟨v, t, rfl, _⟩ := h
    rfl
  obtain ⟨v, t, rfl, tv, hok, hdp, hd, hsz, q⟩ := h
  refine ⟨_, (pss_cons (ps_if (pt_val (pe_callB (isiK (K := K) rfl) rfl T.z_isinstance (by decide +kernel) (pa_cons (pv 0) (pa_cons (pe_bltn (v := .ty "str") rfl T.z_str (by decide +kernel) rfl) pa_nil (star1 rfl)) (star1 rfl)) (by decide) (by decide) (star1 rfl) (starAll rfl))) (pss_one (ps_ret pe_bl)) pss_nil)
  (pss_cons (ps_setLc (i := 1) (own := [("one", 2)]) (g := gName 2) (tt := tYes) rfl sc_is_level.nd rfl rfl (sw_true rfl rfl rfl (by decide +kernel)) (piTK (K := K) rfl (pe_ix (ixTK (K := K) rfl) (pv 0) pe_int (fun _ _ => rfl))) (blkOk_by (N := N_is_level) (sc := defScope s_is_level) (by decide +kernel)) (fun _ _ _ _ _ => (pg_name (i := 2) sc_is_level.nd rfl (Or.inl rfl))) (fun _ _ _ _ _ => pts_nil) (fun _ _ _ _ _ => (pe_call (ok_member_turn T) (hr.mono (by omega)) rfl T.m_member_turn T.F_member_turn.kp (b_member_turn T) .nil pass0 (pa_cons (pv 2) pa_nil (star1 rfl)) (by decide) (star1 rfl) (starAll rfl))))
  (pss_one (ps_ret (pe_and (pe_cmpR op_eq (pe_callB (minK (K := K) rfl rfl) rfl T.z_min (by decide +kernel) (pa_cons (pv 1) pa_nil (star1 rfl)) (by decide) (by decide) (star1 rfl) (starAll rfl)) (pe_callB (maxK (K := K) rfl rfl) rfl T.z_max (by decide +kernel) (pa_cons (pv 1) pa_nil (star1 rfl)) (by decide) (by decide) (star1 rfl) (starAll rfl)) (nomark _)) (pe_one (pe_call ih hr rfl T.m_is_even T.F_is_even.kp (b_is_even T) .nil pass0 (pa_cons (pv 0) pa_nil (star1 rfl)) (by decide) (star1 rfl) (starAll rfl)))))))), ?_⟩
  refine q_when (et_B (ev_isHand (ev_var rfl) tv)) (fun hb H1 e1 => ?_) (fun hb H1 e1 => ?_)
  · cases tv with
    | hand n => exact s_ret ev_c fun H2 e2 => q H2 (e1.trans e2)
    | grp _ _ _ => cases hb
  cases tv with
  | hand n => cases hb
  | @grp a m n b xs ms h1 h2 h3 =>
    have tv : TrV H (.ref a) (.grp n b ms) := .grp h1 h2 h3
    have hok2 := hok
    simp only [Tr.ok] at hok2
    have hl := trvs_len h3
    have hsz2 : sizes ms ≤ 1000 := by simp only [Tr.size] at hsz; omega
    have hls := len_sizes ms
    have hdp2 : deeps ms ≤ 4 := by simp only [Tr.deep] at hdp; omega
    refine q_asgL (xs := (ms.map Tr.turn).map V.int) ?_ fun p H2 hp e2 h2p => ?_
    · have c := el_lcT (K := K) (σ := start N_is_level [.ref a]) (H := H1) (a := m) (xs := xs) (tl := tOp (rIxT K) (tVar 0) (tC (.int 2))) (tt := tYes) (te := tCall (spMT K 4) [] E0 (tCons (tVar 2) tNil)) (j := 2) (vs := [2]) (fun _ => true) (fun i => .int (ms.getD i (.hand "")).turn) (ev_ixT (ev_var rfl) ev_c (st_of (e1 _ _ h1)) rfl) (st_of (e1 _ _ h2)) (by omega) (fun x => rfl) (fun i x H1 e1 hx => et_yes) (fun i x H2 e2 hx _ => ?_)
      · rw [given_all, hl] at c
        have e : (List.range ms.length).map (fun i => V.int (ms.getD i (.hand "")).turn) = (ms.map Tr.turn).map V.int := by
          rw [map_range (fun t => V.int t.turn), List.map_map]
          rfl
        rw [e] at c
        exact c
      · obtain ⟨u, hu, tu⟩ := trvs_get h3 hx
        have : ms.getD i (.hand "") = u := by simp [List.getD_eq_getElem?_getD, hu]
        rw [this]
        have s1 := sizes_mem hu
        have s2 := deeps_mem hu
        exact ev_call (ea_cons (ev_var rfl) ea_nil) fun H3 e3 Q' q' E' => ⟨x, u, rfl, trv_tk (TK.ex ((e1.trans e2).trans e3)) _ _ tu, oks_get hok2.2.2.2 hu, by omega, by omega, by omega, q'⟩
    have e12 := e1.trans e2
    obtain ⟨mn, hmn, hlo⟩ := least (ns := ms.map Tr.turn) (by simpa using hok2.2.2.1)
    refine s_ret (ev_is (ev_andV (a := alike ms) (b := levels ms) (ev_is (ev_eq (ev_minV (K := K) (ev_var rfl) h2p hmn hlo) (ev_maxV (K := K) (ev_var rfl) h2p (max_in hok2.2.2.2 hok2.2.2.1) max_le) rfl) ?_) fun _ => ev_call (ea_cons (ev_var rfl) ea_nil) fun H3 e3 Q' q' E' => ⟨.ref a, n, b, ms, rfl, trv_tk (TK.ex (e12.trans e3)) _ _ tv, hok, hdp, hd, hsz, q'⟩) (w := .bl (Tr.grp n b ms).level) ?_) fun H3 e3 => q H3 (e12.trans e3)
    · congr 1
      unfold alike
      refine decide_eq_decide.mpr ⟨fun z => ?_, fun z => ?_⟩
      · injection z with z
        intro x hx y hy
        have a1 := hlo x hx
        have a2 := hlo y hy
        have a3 := max_le x hx
        have a4 := max_le y hy
        omega
      · rw [z _ hmn _ (max_in hok2.2.2.2 hok2.2.2.1)]
    · simp only [Tr.level]
theorem ev_all (T : Tp w K mg) : ∀ d, FnOk P w K mg base CX0 (2 * d + 20) T.f_is_even T.d_is_even ["plan"] (spEven K d)
  | 0 => ev_step T (spR := fun _ _ _ _ => False) ⟨fun _ _ _ _ h => h.elim, fun _ _ _ _ _ _ _ _ _ _ _ _ _ h => h.elim⟩ (fun k h => by cases h)
  | d + 1 => ev_step T (lv_step T (ev_all T d)) (fun k h => by cases h; rfl)
theorem ok_is_even (T : Tp w K mg) : FnOk P w K mg base CX0 28 T.f_is_even T.d_is_even ["plan"] (spEven K 4) := ev_all T 4
end

/-! ### drawing, and names -/
def spHand (K : PySem.W.Frag) : Sp := fun vs H Q _ => ∃ (a : Addr) (ns : List Int) (k : Nat), vs = [.ref a, .int k] ∧ SqL K H a (ns.map V.int) ∧ ns.length ≤ 63 ∧ k ≤ 63 ∧ ∀ h H', Ex H H' → H h = none → Bx H' h 0 → Q (.ref h) H'
def spTake : Sp := fun vs H Q _ => ∃ (h : Addr) (m : Int) (C : Nat), vs = [.ref h, .int m] ∧ Bx H h C ∧ C ≤ 1000000 ∧ 1 ≤ m ∧ m ≤ 1000 ∧ ∀ (r : Int) H', 0 ≤ r → r < m → Bx H' h (C + 1) → Kp h h H H' → Q (.int r) H'
def spPickB : Sp := fun vs H Q _ => ∃ (h a : Addr) (xs : List V) (C : Nat), vs = [.ref h, .ref a] ∧ Bx H h C ∧ C ≤ 1000000 ∧ H a = some (.lst xs) ∧ a ≠ h ∧ 1 ≤ xs.length ∧ xs.length ≤ 1000 ∧ ∀ v H', v ∈ xs → Bx H' h (C + 1) → Kp h h H H' → Q v H'
def spNm : Sp := fun vs H Q _ => ∃ (bx : Addr) (k : Nat) (f b : Int), vs = [.ref bx] ∧ NB H bx k f b ∧ k ≤ 1000 ∧ 0 ≤ f ∧ f ≤ 1000 ∧ 0 ≤ b ∧ b ≤ 1000 ∧ ∀ H', NB H' bx (k + 1) f b → Kp bx bx H H' → Q (.str (nmL f b (k + 1))) H'
def spLot : Sp := fun vs H Q _ => ∃ (bx : Addr) (k m : Nat) (c f b : Int), vs = [.ref bx, .int (m : Int), .int c] ∧ NB H bx k f b ∧ k ≤ 100 ∧ 0 ≤ f ∧ f ≤ 1000 ∧ 0 ≤ b ∧ b ≤ 1000 ∧ 1 ≤ m ∧ m ≤ 10 ∧ 1 ≤ c ∧ c ≤ 1000 ∧ ∀ v n d ms H', NB H' bx (k + 1 + m) f b → Kp bx bx H H' → TrV H' v (.grp n d ms) → GM f b k (k + 1 + m) 1 (.grp n d ms) → (Tr.grp n d ms).size = m + 1 → (n = nmL f b (k + 1) ∧ gns ms = []) → Q v H'
theorem q_dputP {td ty tv : TE} {tz : TS} {D : Ends} {σ : L2.St} {H : Hp} (h : tv σ H fun v H1 => td σ H1 fun x H2 => ty σ H2 fun y H3 => ∃ a H4, x = .ref a ∧ DPut H3 a y v H4 ∧ tz D σ H4) : tSeq (sDPut td ty tv) tz D σ H := h
theorem nosl {i : Expr} (h : ∀ ov iv, subscripted i false ov iv = operate [ov, iv] (getItem ov iv)) : NoSl i := h
theorem alpha_at : ∀ i : Fin 26, ("abcdefghijklmnopqrstuvwxyz" : Str).cps.toList[i.val]? = some (97 + i.val) := by decide +kernel
section
variable {P : Program} {w : World} {K : PySem.W.Frag} {mg : Str → Option Value} {base : Heap}
theorem ok__law_hand (T : Tp w K mg) : FnOk P w K mg base CX0 1 T.f__law_hand T.d__law_hand ["_law_script", "_law_k"] (spHand K) := by
  refine T.F__law_hand.ok sc__law_hand (fun vs H Q E h => ?_) (fun cdv A outer s H vs Q E hr h => ?_)
  · obtain ⟨a, ns, k, rfl, _⟩ := h
    rfl
  obtain ⟨a, ns, k, rfl, hS, h63, hk, q⟩ := h
  refine ⟨_, (pss_cons (ps_set (i := 2) sc__law_hand.nd rfl (Or.inl rfl) pe_int)
  (pss_cons (ps_if (pt_cmpR op_lt (pv 1) (pe_callB (lenK (K := K) rfl) rfl T.z_len PySem.boot_len (pa_cons (pv 0) pa_nil (star1 rfl)) (by decide) (by decide) (star1 rfl) (starAll rfl)) (nomark _)) (pss_one (ps_set (i := 2) sc__law_hand.nd rfl (Or.inl rfl) (pe_ix ix_list (pv 0) (pv 1) (fun _ _ => rfl)))) pss_nil)
  (pss_cons (ps_set (i := 3) sc__law_hand.nd rfl (Or.inl rfl) (pe_op op_mod (pe_op op_mul (pe_op op_add (pe_op op_add (pe_op op_mod (pv 2) pe_int) (pe_op op_mul (pe_op op_mul pe_int (pv 1)) (pv 1))) pe_int) pe_int) pe_int))
  (pss_one (ps_ret (pe_lst (pa_cons (pe_op op_mul (pe_callB call_abs rfl T.z_abs (by decide +kernel) (pa_cons (pv 2) pa_nil (star1 rfl)) (by decide) (by decide) (star1 rfl) (starAll rfl)) (pe_callTy call_int1 rfl T.z_int (by decide +kernel) (pa_cons (pe_cmpR op_ge (pe_callB call_abs rfl T.z_abs (by decide +kernel) (pa_cons (pv 2) pa_nil (star1 rfl)) (by decide) (by decide) (star1 rfl) (starAll rfl)) (pe_op op_pow pe_int pe_int) (nomark _)) pa_nil (star1 rfl)) (by decide) (by decide) (star1 rfl) (starAll rfl))) (pa_cons (pv 3) (pa_cons pe_int pa_nil (star1 rfl)) (star1 rfl)) (star1 rfl)))))))), ?_⟩
  refine q_asg (v := .int 0) ev_c fun H1 e1 => ?_
  refine q_ifAsg (v := .int (ns.getD k 0)) (et_test (ev_I0 (ev_var rfl) (ev_len (ev_var rfl) (ex_l e1 hS)))) (fun hb => ?_) (fun hb => ?_) fun H2 e2 => ?_
  · have hb2 : k < ns.length := by simpa using hb
    refine ev_op (ev_var rfl) (ev_var rfl) (rv_ixL (v := .int (ns.getD k 0)) (ex_l e1 hS) ?_)
    unfold atI ixN
    rw [if_pos (by omega), if_pos (by rw [List.length_map]; omega)]
    simp [List.getD_eq_getElem?_getD, hb2]
  · have hb2 : ¬ k < ns.length := by simpa using hb
    have e : ns.getD k 0 = 0 := by
      rw [List.getD_eq_getElem?_getD, List.getElem?_eq_none (by omega)]
      rfl
    rw [e]
    rfl
  generalize ns.getD k 0 = c
  have ab : ∀ {H' : Hp} {σ : L2.St}, σ[2]? = some (some (.int c)) → Ev (tCB (fun xs H Q => ∃ i, xs = [.int i] ∧ Q (.int (if i < 0 then -i else i)) H) (tCons (tVar 2) tNil)) σ H' (.int (if c < 0 then -c else c)) := fun h => ev_abs (ev_var h)
  have abs0 : 0 ≤ (if c < 0 then -c else c) := by split <;> omega
  generalize (if c < 0 then -c else c) = b at ab abs0
  have m0 : 0 ≤ c % 2305843009213693951 := Int.emod_nonneg _ (by decide)
  have m1 : c % 2305843009213693951 < 2305843009213693951 := Int.emod_lt_of_pos _ (by decide)
  have pw : ∀ {H' : Hp} {σ : L2.St}, Ev (tOp (rI CPow fun i j => .int (i ^ j.toNat)) (tC (.int 10)) (tC (.int 18))) σ H' (.int (10 ^ 18)) := fun H3 e Q q => ⟨10, 18, rfl, rfl, ⟨by decide, by decide, by decide⟩, q H3 (Ex.refl H3)⟩
  refine q_asg (v := .int ((c % 2305843009213693951 + 6143 * k * k + 19) * 48271 % 2305843009213693921)) (ev_I (by decide) (ev_I (C := CMul) (g := fun i j => .int (i * j)) (Or.inr (by decide)) (ev_I0 (ev_I0 (ev_I (by decide) (ev_var rfl) ev_c) (ev_I (C := CMul) (g := fun i j => .int (i * j)) (Or.inr ⟨by omega, by omega⟩) (ev_I (C := CMul) (g := fun i j => .int (i * j)) (Or.inl (by decide)) ev_c (ev_var rfl)) (ev_var rfl))) ev_c) ev_c) ev_c) fun H2' e2' => ?_
  have x0 : 0 ≤ (c % 2305843009213693951 + 6143 * k * k + 19) * 48271 % 2305843009213693921 := Int.emod_nonneg _ (by decide)
  have x1 : (c % 2305843009213693951 + 6143 * k * k + 19) * 48271 % 2305843009213693921 < 2305843009213693921 := Int.emod_lt_of_pos _ (by decide)
  generalize (c % 2305843009213693951 + 6143 * k * k + 19) * 48271 % 2305843009213693921 = mx at x0 x1
  refine s_retL (xs := [.int (b * (if decide (b ≥ 10 ^ 18) then 1 else 0)), .int mx, .int 0]) ?_ fun p H3 hp e3 h3 => ?_
  · refine fun H4 e4 Q' q' => (ea_cons (ev_I (C := CMul) (g := fun i j => .int (i * j)) ?_ (ab rfl) (ev_intB (b := decide (b ≥ 10 ^ 18)) (ev_is (ev_I0 (ab rfl) pw) rfl))) (ea_cons (ev_var rfl) (ea_cons ev_c ea_nil))) H4 (Ex.refl H4) _ fun H5 e5 => ⟨(by show 3 ≤ sizeLine; decide), fun p hp => q' p _ (fresh_back e5 hp) (e5.trans (Ex.new hp)) upd_same⟩
    refine Or.inr ?_
    split <;> decide
  · refine q p H3 (((e1.trans e2).trans e2').trans e3) (fresh_back ((e1.trans e2).trans e2') hp) ⟨_, _, _, h3, ?_, x0, ?_, by decide, by decide⟩
    · exact Int.mul_nonneg abs0 (by split <;> decide)
    · omega
theorem ok__law_take (T : Tp w K mg) : FnOk P w K mg base CX0 1 T.f__law_take T.d__law_take ["_law_hand_here", "_law_many"] spTake := by
  refine T.F__law_take.ok sc__law_take (fun vs H Q E h => ?_) (fun cdv A outer s H vs Q E hr h => ?_)
  · obtain ⟨h, m, C, rfl, _⟩ := h
    rfl
  obtain ⟨h, m, C, rfl, ⟨n, m', c, A0⟩, hC, m1, m2, q⟩ := h
  refine ⟨_, (pss_cons (ps_if (pt_cmpR op_gt (pe_ix ix_list (pv 0) pe_int (fun _ _ => rfl)) pe_int (nomark _)) (pss_cons (ps_set (i := 3) sc__law_take.nd rfl (Or.inl rfl) (pe_op op_mod (pe_ix ix_list (pv 0) pe_int (fun _ _ => rfl)) (pv 1)))
  (pss_cons (ps_asg (pe_op op_fdiv (pe_ix ix_list (pv 0) pe_int (fun _ _ => rfl)) (pv 1)) (pg_sub (pv 0) pe_int set_list))
  (pss_one (ps_ret (pv 3))))) pss_nil)
  (pss_cons (ps_asg (pe_op op_add (pe_ix ix_list (pv 0) pe_int (fun _ _ => rfl)) pe_int) (pg_sub (pv 0) pe_int set_list))
  (pss_cons (ps_set (i := 2) sc__law_take.nd rfl (Or.inl rfl) (pe_op op_mod (pe_op op_mul (pe_op op_add (pe_op op_add (pe_ix ix_list (pv 0) pe_int (fun _ _ => rfl)) (pe_op op_mul (pe_op op_mul pe_int (pe_ix ix_list (pv 0) pe_int (fun _ _ => rfl))) (pe_ix ix_list (pv 0) pe_int (fun _ _ => rfl)))) pe_int) pe_int) pe_int))
  (pss_cons (ps_set (i := 2) sc__law_take.nd rfl (Or.inl rfl) (pe_op op_mod (pe_op op_mul (pv 2) (pe_op op_add (pe_op op_mod (pv 2) pe_int) (pe_op op_mul pe_int (pe_ix ix_list (pv 0) pe_int (fun _ _ => rfl))))) pe_int))
  (pss_one (ps_ret (pe_op op_mod (pe_op op_add (pe_op op_fdiv (pv 2) pe_int) (pe_op op_fdiv (pv 2) pe_int)) (pv 1)))))))), ?_⟩
  have at0 : ∀ (σ' : L2.St) {H' : Hp} {n m c : Int} {C : Nat}, σ'[0]? = some (some (.ref h)) → BxAt H' h n m c C → Ev (tOp (rIxL K) (tVar 0) (tC (.int 0))) σ' H' (.int n) := fun σ' H' n m c C e A => ev_op (ev_var e) ev_c (rv_ixL (sq_of A.hh) rfl)
  have at1 : ∀ (σ' : L2.St) {H' : Hp} {n m c : Int} {C : Nat}, σ'[0]? = some (some (.ref h)) → BxAt H' h n m c C → Ev (tOp (rIxL K) (tVar 0) (tC (.int 1))) σ' H' (.int m) := fun σ' H' n m c C e A => ev_op (ev_var e) ev_c (rv_ixL (sq_of A.hh) rfl)
  have at2 : ∀ (σ' : L2.St) {H' : Hp} {n m c : Int} {C : Nat}, σ'[0]? = some (some (.ref h)) → BxAt H' h n m c C → Ev (tOp (rIxL K) (tVar 0) (tC (.int 2))) σ' H' (.int c) := fun σ' H' n m c C e A => ev_op (ev_var e) ev_c (rv_ixL (sq_of A.hh) rfl)
  refine q_when (et_test (ev_I0 (at0 _ rfl A0) ev_c)) (fun hb H1 e1 => ?_) (fun hb H1 e1 => ?_)
  · have A1 := A0.ex e1
    refine q_asg (v := .int (n % m)) (ev_I (by show (0 : Int) < m; omega) (at0 _ rfl A1) (ev_var rfl)) fun H2 e2 => ?_
    have A2 := A1.ex e2
    refine q_setL (j := 0) (v := .int (n / m)) A2.hh (ev_I (C := CDiv) ⟨by omega, by omega⟩ (at0 _ rfl A2) (ev_var rfl)) (ev_var rfl) ev_c (by simp) fun H3 e3 => ?_
    have A3 := A2.ex e3
    refine s_ret (v := .int (n % m)) (ev_var rfl) fun H4 e4 => ?_
    have B : BxAt (upd H3 h (.lst ([V.int n, .int m', .int c].set 0 (.int (n / m))))) h (n / m) m' c (C + 1) := ⟨upd_same, Int.ediv_nonneg A3.n0 (by omega), A3.m0, A3.m1, A3.c0, by have := A3.c1; omega⟩
    exact q _ H4 (Int.emod_nonneg _ (by omega)) (Int.emod_lt_of_pos _ (by omega)) ⟨_, _, _, B.ex e4⟩ ((Kp.put (Kp.ex ((e1.trans e2).trans e3)) (Or.inl rfl)).trans (Kp.ex e4))
  · have A1 := A0.ex e1
    refine q_setL (j := 2) (v := .int (c + 1)) A1.hh (ev_I0 (at2 _ rfl A1) ev_c) (ev_var rfl) ev_c (by simp) fun H2 e2 => ?_
    have A2 := A1.ex e2
    have k2 : Kp h h H (upd H2 h (.lst ([V.int n, .int m', .int c].set 2 (.int (c + 1))))) := Kp.put (Kp.ex (e1.trans e2)) (Or.inl rfl)
    have B : BxAt (upd H2 h (.lst ([V.int n, .int m', .int c].set 2 (.int (c + 1))))) h n m' (c + 1) (C + 1) := ⟨upd_same, A2.n0, A2.m0, A2.m1, by have := A2.c0; omega, by have := A2.c1; omega⟩
    generalize upd H2 h (.lst ([V.int n, .int m', .int c].set 2 (.int (c + 1)))) = H3 at B k2
    have c1 := B.c1
    have c0 := B.c0
    refine q_asg (v := .int ((m' + 104729 * (c + 1) * (c + 1) + 13) * 69621 % 2305843009213693921)) (ev_I (by decide) (ev_I (C := CMul) (g := fun i j => .int (i * j)) (Or.inr (by decide)) (ev_I0 (ev_I0 (at1 _ rfl B) (ev_I (C := CMul) (g := fun i j => .int (i * j)) (Or.inr ⟨by omega, by omega⟩) (ev_I (C := CMul) (g := fun i j => .int (i * j)) (Or.inl (by decide)) ev_c (at2 _ rfl B)) (at2 _ rfl B))) ev_c) ev_c) ev_c) fun H4 e4 => ?_
    have B4 := B.ex e4
    have x0 : 0 ≤ (m' + 104729 * (c + 1) * (c + 1) + 13) * 69621 % 2305843009213693921 := Int.emod_nonneg _ (by decide)
    have x1 : (m' + 104729 * (c + 1) * (c + 1) + 13) * 69621 % 2305843009213693921 < 2305843009213693921 := Int.emod_lt_of_pos _ (by decide)
    generalize (m' + 104729 * (c + 1) * (c + 1) + 13) * 69621 % 2305843009213693921 = mx at x0 x1
    refine q_asg (v := .int (mx * (mx % 999983 + 90001 * (c + 1)) % 2305843009213693907)) (ev_I (by decide) (ev_I (C := CMul) (g := fun i j => .int (i * j)) (Or.inl ⟨by omega, by omega⟩) (ev_var rfl) (ev_I0 (ev_I (by decide) (ev_var rfl) ev_c) (ev_I (C := CMul) (g := fun i j => .int (i * j)) (Or.inl (by decide)) ev_c (at2 _ rfl B4)))) ev_c) fun H5 e5 => ?_
    have B5 := B4.ex e5
    refine s_ret (ev_I (by show (0 : Int) < m; omega) (ev_I0 (ev_I (C := CDiv) (by constructor <;> decide) (ev_var rfl) ev_c) (ev_I (C := CDiv) (by constructor <;> decide) (ev_var rfl) ev_c)) (ev_var rfl)) fun H6 e6 => ?_
    exact q _ H6 (Int.emod_nonneg _ (by omega)) (Int.emod_lt_of_pos _ (by omega)) ⟨_, _, _, B5.ex e6⟩ (k2.trans (Kp.ex ((e4.trans e5).trans e6)))
theorem ok__law_pick (T : Tp w K mg) : FnOk P w K mg base CX0 2 T.f__law_pick T.d__law_pick ["_law_hand_here", "_law_some"] spPickB := by
  refine T.F__law_pick.ok sc__law_pick (fun vs H Q E h => ?_) (fun cdv A outer s H vs Q E hr h => ?_)
  · obtain ⟨h, a, xs, C, rfl, _⟩ := h
    rfl
  refine ⟨_, (pss_one (ps_ret (pe_ix (ixLK (K := K) rfl) (pv 1) (pe_call (ok__law_take T) (hr.mono (by decide)) rfl T.m__law_take T.F__law_take.kp (b__law_take T) .nil pass0 (pa_cons (pv 0) (pa_cons (pe_callB (lenK (K := K) rfl) rfl T.z_len PySem.boot_len (pa_cons (pv 1) pa_nil (star1 rfl)) (by decide) (by decide) (star1 rfl) (starAll rfl)) pa_nil (star1 rfl)) (star1 rfl)) (by decide) (star1 rfl) (starAll rfl)) (fun _ _ => rfl)))), ?_⟩
  obtain ⟨h, a, xs, C, rfl, A0, hC, ha, n1, l1, l2, q⟩ := h
  refine ⟨_, rfl, _, rfl, _, rfl, a, xs, rfl, Or.inl (sq_of ha), h, (xs.length : Int), C, rfl, A0, hC, by omega, by omega, fun r H' r0 r1 A1 k1 => ?_⟩
  have hi : r.toNat < xs.length := by omega
  refine ⟨a, xs, r, xs[r.toNat], rfl, rfl, sq_of (k1 a _ n1 n1 ha), ?_, q _ H' (List.getElem_mem hi) A1 k1⟩
  unfold atI ixN
  rw [if_pos r0, if_pos r1]
  simp [hi]
theorem ok__law_name (T : Tp w K mg) : FnOk P w K mg base CX0 1 T.f__law_name T.d__law_name ["_law_box"] spNm := by
  refine T.F__law_name.ok sc__law_name (fun vs H Q E h => ?_) (fun cdv A outer s H vs Q E hr h => ?_)
  · obtain ⟨bx, k, f, b, rfl, _⟩ := h
    rfl
  obtain ⟨bx, k, f, b, rfl, n0, hk, f0, f1, b0, b1, q⟩ := h
  refine ⟨_, (pss_cons (ps_dput (hu_of hr) (pv 0) pe_str (pe_op op_add (pe_dget (hu_of hr) (pv 0) pe_str (nosl fun _ _ => rfl)) pe_int) rfl)
  (pss_cons (ps_set (i := 1) sc__law_name.nd rfl (Or.inl rfl) pe_str)
  (pss_one (ps_ret (pe_ix ix_str (pv 1) (pe_op op_mod (pe_op op_add (pe_dget (hu_of hr) (pv 0) pe_str (nosl fun _ _ => rfl)) (pe_op op_mul (pe_dget (hu_of hr) (pv 0) pe_str (nosl fun _ _ => rfl)) (pe_dget (hu_of hr) (pv 0) pe_str (nosl fun _ _ => rfl)))) pe_int) (fun _ _ => rfl)))))), ?_⟩
  refine q_dputP ?_
  refine ⟨_, rfl, bx, .int (k : Int), rfl, DGet.k (k := Sum.inr (Str.ofString "next")) n0, (k : Int), 1, rfl, rfl, ?_⟩
  refine ⟨_, rfl, bx, _, rfl, DPut.k (k := Sum.inr (Str.ofString "next")) n0 (sz_lt (by show 3 < 100000; decide)), ?_⟩
  have e1 : putK (κ := L2.Key) [(Sum.inr (Str.ofString "next"), V.int (k : Int)), (Sum.inr (Str.ofString "first"), V.int f), (Sum.inr (Str.ofString "by"), V.int b)] (Sum.inr (Str.ofString "next")) (V.int ((k : Int) + 1)) = [(Sum.inr (Str.ofString "next"), V.int ((k + 1 : Nat) : Int)), (Sum.inr (Str.ofString "first"), V.int f), (Sum.inr (Str.ofString "by"), V.int b)] := by
    have d1 : (Sum.inr (Str.ofString "first") : L2.Key) ≠ Sum.inr (Str.ofString "next") := by decide +kernel
    have d2 : (Sum.inr (Str.ofString "by") : L2.Key) ≠ Sum.inr (Str.ofString "next") := by decide +kernel
    unfold putK
    rw [if_pos (by simp), List.map_cons, List.map_cons, List.map_cons, List.map_nil, if_pos rfl, if_neg d1, if_neg d2]
    rfl
  rw [e1]
  have n1 : NB (upd H bx (.dK [(Sum.inr (Str.ofString "next"), V.int ((k + 1 : Nat) : Int)), (Sum.inr (Str.ofString "first"), V.int f), (Sum.inr (Str.ofString "by"), V.int b)])) bx (k + 1) f b := upd_same
  have k1 : Kp bx bx H (upd H bx (.dK [(Sum.inr (Str.ofString "next"), V.int ((k + 1 : Nat) : Int)), (Sum.inr (Str.ofString "first"), V.int f), (Sum.inr (Str.ofString "by"), V.int b)])) := Kp.put (Kp.refl _ _ H) (Or.inl rfl)
  generalize upd H bx (.dK [(Sum.inr (Str.ofString "next"), V.int ((k + 1 : Nat) : Int)), (Sum.inr (Str.ofString "first"), V.int f), (Sum.inr (Str.ofString "by"), V.int b)]) = H1 at n1 k1
  refine q_asg (v := .str "abcdefghijklmnopqrstuvwxyz") ev_c fun H2 e2 => ?_
  have n2 := n1.ex e2
  refine s_retP ?_
  refine ⟨_, rfl, _, rfl, bx, .int f, rfl, DGet.k (k := Sum.inr (Str.ofString "first")) n2, _, rfl, bx, .int b, rfl, DGet.k (k := Sum.inr (Str.ofString "by")) n2, _, rfl, bx, .int ((k + 1 : Nat) : Int), rfl, DGet.k (k := Sum.inr (Str.ofString "next")) n2, b, ((k + 1 : Nat) : Int), rfl, rfl, Or.inl ⟨by omega, by omega⟩, f, b * ((k + 1 : Nat) : Int), rfl, rfl, f + b * ((k + 1 : Nat) : Int), 26, rfl, rfl, (show (0 : Int) < 26 by decide), ?_⟩
  have r0 : 0 ≤ (f + b * ((k + 1 : Nat) : Int)) % 26 := Int.emod_nonneg _ (by decide)
  have r1 : (f + b * ((k + 1 : Nat) : Int)) % 26 < 26 := Int.emod_lt_of_pos _ (by decide)
  refine ⟨_, _, 97 + ((f + b * ((k + 1 : Nat) : Int)) % 26).toNat, rfl, rfl, (by decide +kernel), ?_, ?_⟩
  · generalize (f + b * ((k + 1 : Nat) : Int)) % 26 = r at r0 r1
    have := alpha_at ⟨r.toNat, by omega⟩
    unfold atI ixN
    have hl : ("abcdefghijklmnopqrstuvwxyz" : Str).cps.toList.length = 26 := by decide +kernel
    rw [if_pos r0, if_pos (by rw [hl]; omega)]
    exact this
  · exact q H2 n2 (k1.trans (Kp.ex e2))
theorem ok__law_lot (T : Tp w K mg) : FnOk P w K mg base CX0 2 T.f__law_lot T.d__law_lot ["_law_box", "_law_many", "_law_bound"] spLot := by
  refine T.F__law_lot.ok sc__law_lot (fun vs H Q E h => ?_) (fun cdv A outer s H vs Q E hr h => ?_)
  · obtain ⟨bx, k, m, c, f, b, rfl, _⟩ := h
    rfl
  obtain ⟨bx, k, m, c, f, b, rfl, n0, hk, f0, f1, b0, b1, m1, m2, c1, c2, q⟩ := h
  refine ⟨_, (pss_cons (ps_set (i := 3) sc__law_lot.nd rfl (Or.inl rfl) (pe_call (ok__law_name T) (hr.mono (by decide)) rfl T.m__law_name T.F__law_name.kp (b__law_name T) .nil pass0 (pa_cons (pv 0) pa_nil (star1 rfl)) (by decide) (star1 rfl) (starAll rfl)))
  (pss_one (ps_ret (pe_tup (pa_cons (pv 3) (pa_cons (pv 2) (pa_cons (pe_callTy call_tuple_of rfl T.z_tuple (by decide +kernel) (pa_cons (pe_lc (own := [("_law_k", 4)]) (g := gName 4) (tt := tYes) rfl sc__law_lot.nd (pi_range1 rfl T.z_range (pa_cons (pv 1) pa_nil (star1 rfl))) (blkOk_by (N := N__law_lot) (sc := defScope s__law_lot) (by decide +kernel)) (fun _ _ _ _ _ => (pg_name (i := 4) sc__law_lot.nd rfl (Or.inl rfl))) (fun _ _ _ _ _ => pts_nil) (fun _ _ _ _ _ => (pe_call (ok__law_name T) (hr.mono (by decide)) rfl T.m__law_name T.F__law_name.kp (b__law_name T) .nil pass0 (pa_cons (pv 0) pa_nil (star1 rfl)) (by decide) (star1 rfl) (starAll rfl)))) pa_nil (star1 rfl)) (by decide) (by decide) (star1 rfl) (starAll rfl)) pa_nil (star1 rfl)) (star1 rfl)) (star1 rfl)))))), ?_⟩
  refine q_asgP ?_
  refine ⟨_, rfl, bx, k, f, b, rfl, n0, by omega, f0, f1, b0, b1, fun H1 n1 k1 => ?_⟩
  refine s_retP ?_
  refine ⟨_, rfl, _, rfl, _, rfl, (m : Int), rfl, by omega, by omega, fun D hD => ?_⟩
  have dbx : D ≠ bx := fun z => by
    subst z
    rw [NB] at n1
    rw [n1] at hD
    cases hD
  have HD : H D = none := by
    cases z : H D with
    | none => rfl
    | some o => rw [k1 D o dbx dbx z] at hD; cases hD
  refine lc_range (lo := 0) (n := (m : Int).toNat) (fun i H' => NB H' bx (k + 1 + i) f b ∧ Kp bx bx H H' ∧ H' D = some (.lst ((List.range i).map fun j => V.str (nmL f b (k + 2 + j))))) ?_ ?_ ?_
  · exact ⟨n1.ex (Ex.new hD), k1.trans (Kp.ex (Ex.new hD)), upd_same⟩
  · intro i H2 hi hP
    obtain ⟨n2, k2, hacc⟩ := hP
    refine ⟨rfl, tYesQ ?_⟩
    refine ⟨_, rfl, bx, k + 1 + i, f, b, rfl, n2, by omega, f0, f1, b0, b1, fun H3 n3 k3 => ?_⟩
    have hacc3 := k3 _ _ dbx dbx hacc
    refine ⟨_, hacc3, sz_lt (by rw [List.length_map, List.length_range]; omega), ?_, ?_, ?_⟩
    · show upd H3 D _ bx = _
      rw [upd_ne (Ne.symm dbx)]
      exact n3
    · intro a o u1 u2 ha
      have : a ≠ D := fun z => by
        subst z
        rw [HD] at ha
        cases ha
      rw [upd_ne this]
      exact k3 a o u1 u2 (k2 a o u1 u2 ha)
    · rw [upd_same, List.range_succ, List.map_append]
      have : k + 2 + i = k + 1 + i + 1 := by omega
      simp [this]
  intro H2 hP
  obtain ⟨n2, k2, hacc⟩ := hP
  have em : (m : Int).toNat = m := by omega
  rw [em] at n2 hacc
  refine ⟨D, _, rfl, Or.inl ⟨sq_of hacc, fun t ht => ⟨(by show 3 ≤ sizeLine; decide), fun g hg => ?_⟩⟩⟩
  have e3 := (Ex.new (o := .tup ((List.range m).map fun j => V.str (nmL f b (k + 2 + j)))) ht)
  have e4 := Ex.new (o := .tup [.str (nmL f b (k + 1)), .int c, .ref t]) hg
  have hm0 : (List.range m).map (fun j => Tr.hand (nmL f b (k + 2 + j))) ≠ [] := by
    intro z
    have := congrArg List.length z
    simp at this
    omega
  have szh : ∀ l : List Nat, sizes (l.map fun j => Tr.hand (nmL f b (k + 2 + j))) = l.length := by
    intro l
    induction l with
    | nil => rfl
    | cons x l ih => simp only [List.map_cons, sizes, Tr.size, ih, List.length_cons]; omega
  have gnh : ∀ l : List Nat, gns (l.map fun j => Tr.hand (nmL f b (k + 2 + j))) = [] := by
    intro l
    induction l with
    | nil => rfl
    | cons x l ih => simp only [List.map_cons, gns, Tr.gn, ih]; rfl
  have tvs : ∀ (H' : Hp) (l : List Nat), TrVs H' (l.map fun j => V.str (nmL f b (k + 2 + j))) (l.map fun j => Tr.hand (nmL f b (k + 2 + j))) := by
    intro H' l
    induction l with
    | nil => exact .nil
    | cons x l ih => exact .cons (.hand _) ih
  refine q (.ref g) (nmL f b (k + 1)) c ((List.range m).map fun j => Tr.hand (nmL f b (k + 2 + j))) _ (n2.ex (e3.trans e4)) (k2.trans (Kp.ex (e3.trans e4))) (.grp upd_same (e4 _ _ upd_same) (tvs _ _)) (GMs.grp (lo := k) (d := 0) ⟨fun u hu => ?_, ?_⟩ hm0 c1 (by omega) (by omega) (by omega) (Nat.le_refl _)) ?_ ⟨rfl, gnh _⟩
  · obtain ⟨j, _, rfl⟩ := List.mem_map.mp hu
    exact GM.hand (nmL_ok _ _ _)
  · rw [szh, List.length_range]
    omega
  · simp only [Tr.size]
    rw [szh, List.length_range]
end

/-! ### lists of members, as they are made -/
theorem q_ifM {t : TT} {tu tw tz : TS} {D : Ends} {σ : L2.St} {H : Hp} (M : L2.St → Hp → Prop) (k : ∀ σ' H', M σ' H' → tz D σ' H') (h : ∀ R : L2.St → Hp → Prop, (∀ σ' H', M σ' H' → R σ' H') → t σ H fun c H1 => if c = true then tu { D with nx := R } σ H1 else tw { D with nx := R } σ H1) : tSeq (tIfS t tu tw) tz D σ H := h (tz D) k
def LI (h bx : Addr) (f b : Int) (C k0 w : Nat) (H1 : Hp) (D : Addr) (i : Nat) (H' : Hp) : Prop := ∃ xs ts k', Bx H' h (C + i) ∧ NB H' bx k' f b ∧ Kp h bx H1 H' ∧ H' D = some (.lst xs) ∧ TrVs H' xs ts ∧ GMs f b k0 k' 1 ts ∧ ts.length = i ∧ k0 ≤ k' ∧ k' ≤ k0 + w * i
section
variable {h bx D : Addr} {f b : Int} {C k0 w i : Nat} {H1 H' H'' : Hp}
theorem li_0 (hD : H1 D = none) (A : Bx H1 h C) (n0 : NB H1 bx k0 f b) : LI h bx f b C k0 w H1 D 0 (upd H1 D (.lst [])) := ⟨[], [], k0, A.new hD, n0.ex (Ex.new hD), Kp.ex (Ex.new hD), upd_same, .nil, ⟨(fun t ht => by cases ht), by simp [sizes]⟩, rfl, Nat.le_refl _, by omega⟩
theorem li_more {xs : List V} {ts : List Tr} {k' k'' : Nat} {v : V} {t : Tr} (hD : H1 D = none) (dh : D ≠ h) (db : D ≠ bx) (A : Bx H' h (C + i)) (n' : NB H' bx k' f b) (kp : Kp h bx H1 H') (tv : TrVs H' xs ts) (g : GMs f b k0 k' 1 ts) (hl : ts.length = i) (h0 : k0 ≤ k') (hw : k' ≤ k0 + w * i)
    (A2 : Bx H'' h (C + i + 1)) (n2 : NB H'' bx k'' f b) (kp2 : Kp h bx H' H'') (tv2 : TrV H'' v t) (g2 : GM f b k' k'' 1 t) (hs : t.size + k' ≤ k'') (hw2 : k'' ≤ k' + w) (hacc : H'' D = some (.lst xs)) : LI h bx f b C k0 w H1 D (i + 1) (upd H'' D (.lst (xs ++ [v]))) := by
  have tk2 : TK H'' (upd H'' D (.lst (xs ++ [v]))) := TK.lst hacc
  refine ⟨xs ++ [v], ts ++ [t], k'', ?_, ?_, ?_, upd_same, trvs_app (trvs_tk ((tk_kp2 A n' kp2).trans tk2) _ _ tv) (.cons (trv_tk tk2 _ _ tv2) .nil), GMs.app g g2 hs h0, by rw [List.length_append]; simp [hl], by omega, ?_⟩
  · obtain ⟨n, m, c, B⟩ := A2
    exact ⟨n, m, c, by rw [upd_ne (Ne.symm dh)]; exact B.hh, B.n0, B.m0, B.m1, B.c0, B.c1⟩
  · show upd H'' D _ bx = _
    rw [upd_ne (Ne.symm db)]
    exact n2
  · intro a o u1 u2 ha
    have : a ≠ D := fun z => by
      subst z
      rw [hD] at ha
      cases ha
    rw [upd_ne this]
    exact kp2 a o u1 u2 (kp a o u1 u2 ha)
  · have := Nat.mul_succ w i
    show k'' ≤ k0 + w * (i + 1)
    rw [Nat.mul_succ]
    omega
end
def spUpper : Sp := fun vs H Q _ => ∃ (h bx : Addr) (ev : Bool) (C k : Nat) (f b : Int), vs = [.ref h, .ref bx, .bl ev] ∧ Bx H h C ∧ C ≤ 100000 ∧ NB H bx k f b ∧ k ≤ 50 ∧ 0 ≤ f ∧ f ≤ 1000 ∧ 0 ≤ b ∧ b ≤ 1000 ∧ ∀ v t H' k', Bx H' h (C + 20) → NB H' bx k' f b → Kp h bx H H' → TrV H' v t → GM f b k k' 2 t → t.size + k ≤ k' → k' ≤ k + 10 → Q v H'
section
variable {P : Program} {w : World} {K : PySem.W.Frag} {mg : Str → Option Value} {base : Heap}
theorem take_at {h : Addr} {m : Int} {C i : Nat} {σ : L2.St} {H : Hp} {Q : VK} (hσ : σ[i]? = some (some (.ref h))) (A : Bx H h C) (hC : C ≤ 1000000) (m1 : 1 ≤ m) (m2 : m ≤ 1000) (q : ∀ (r : Int) H', 0 ≤ r → r < m → Bx H' h (C + 1) → Kp h h H H' → Q (.int r) H') : tCall spTake [] E0 (tCons (tVar i) (tCons (tC (.int m)) tNil)) σ H Q := ⟨_, hσ, h, m, C, rfl, A, hC, m1, m2, q⟩
theorem ok__law_upper (T : Tp w K mg) : FnOk P w K mg base CX0 3 T.f__law_upper T.d__law_upper ["_law_hand_here", "_law_box", "_law_even"] spUpper := by
  refine T.F__law_upper.ok sc__law_upper (fun vs H Q E h => ?_) (fun cdv A outer s H vs Q E hr h => ?_)
  · obtain ⟨h, bx, ev, C, k, f, b, rfl, _⟩ := h
    rfl
  obtain ⟨h, bx, ev, C, k, f, b, rfl, A0, hC, n0, hk, f0, f1, b0, b1, q⟩ := h
  refine ⟨_, (pss_cons (ps_asg (pe_tup (pa_cons (pe_call (ok__law_name T) (hr.mono (by decide)) rfl T.m__law_name T.F__law_name.kp (b__law_name T) .nil pass0 (pa_cons (pv 1) pa_nil (star1 rfl)) (by decide) (star1 rfl) (starAll rfl)) (pa_cons (pe_op op_add pe_int (pe_call (ok__law_take T) (hr.mono (by decide)) rfl T.m__law_take T.F__law_take.kp (b__law_take T) .nil pass0 (pa_cons (pv 0) (pa_cons pe_int pa_nil (star1 rfl)) (star1 rfl)) (by decide) (star1 rfl) (starAll rfl))) (pa_cons (pe_op op_add pe_int (pe_call (ok__law_take T) (hr.mono (by decide)) rfl T.m__law_take T.F__law_take.kp (b__law_take T) .nil pass0 (pa_cons (pv 0) (pa_cons pe_int pa_nil (star1 rfl)) (star1 rfl)) (by decide) (star1 rfl) (starAll rfl))) pa_nil (star1 rfl)) (star1 rfl)) (star1 rfl))) (pg_tup rfl (pgs_cons (pg_name (i := 3) sc__law_upper.nd rfl (Or.inl rfl)) (pgs_cons (pg_name (i := 4) sc__law_upper.nd rfl (Or.inl rfl)) (pgs_cons (pg_name (i := 5) sc__law_upper.nd rfl (Or.inr rfl)) pgs_nil)))))
  (pss_cons (ps_if (pt_cmpR op_eq (pe_call (ok__law_take T) (hr.mono (by decide)) rfl T.m__law_take T.F__law_take.kp (b__law_take T) .nil pass0 (pa_cons (pv 0) (pa_cons pe_int pa_nil (star1 rfl)) (star1 rfl)) (by decide) (star1 rfl) (starAll rfl)) pe_int (nomark _)) (pss_cons (ps_setLc (i := 6) (own := [("_law_k", 7)]) (g := gName 7) (tt := tYes) rfl sc__law_upper.nd rfl rfl (sw_true rfl rfl rfl (by decide +kernel)) (pi_range1 rfl T.z_range (pa_cons (pe_op op_add pe_int (pe_call (ok__law_take T) (hr.mono (by decide)) rfl T.m__law_take T.F__law_take.kp (b__law_take T) .nil pass0 (pa_cons (pv 0) (pa_cons pe_int pa_nil (star1 rfl)) (star1 rfl)) (by decide) (star1 rfl) (starAll rfl))) pa_nil (star1 rfl))) (blkOk_by (N := N__law_upper) (sc := defScope s__law_upper) (by decide +kernel)) (fun _ _ _ _ _ => (pg_name (i := 7) sc__law_upper.nd rfl (Or.inl rfl))) (fun _ _ _ _ _ => pts_nil) (fun _ _ _ _ _ => (pe_call (ok__law_name T) (hr.mono (by decide)) rfl T.m__law_name T.F__law_name.kp (b__law_name T) .nil pass0 (pa_cons (pv 1) pa_nil (star1 rfl)) (by decide) (star1 rfl) (starAll rfl))))
  (pss_one (ps_set (i := 6) sc__law_upper.nd rfl (Or.inl rfl) (pe_op op_cat (pv 6) (pe_lc (own := [("_law_k", 7)]) (g := gName 7) (tt := tYes) rfl sc__law_upper.nd (pi_range1 rfl T.z_range (pa_cons (pe_call (ok__law_take T) (hr.mono (by decide)) rfl T.m__law_take T.F__law_take.kp (b__law_take T) .nil pass0 (pa_cons (pv 0) (pa_cons pe_int pa_nil (star1 rfl)) (star1 rfl)) (by decide) (star1 rfl) (starAll rfl)) pa_nil (star1 rfl))) (blkOk_by (N := N__law_upper) (sc := defScope s__law_upper) (by decide +kernel)) (fun _ _ _ _ _ => (pg_name (i := 7) sc__law_upper.nd rfl (Or.inl rfl))) (fun _ _ _ _ _ => pts_nil) (fun _ _ _ _ _ => (pe_call (ok__law_lot T) (hr.mono (by decide)) rfl T.m__law_lot T.F__law_lot.kp (b__law_lot T) .nil pass0 (pa_cons (pv 1) (pa_cons pe_int (pa_cons (pe_op op_add pe_int (pe_call (ok__law_take T) (hr.mono (by decide)) rfl T.m__law_take T.F__law_take.kp (b__law_take T) .nil pass0 (pa_cons (pv 0) (pa_cons pe_int pa_nil (star1 rfl)) (star1 rfl)) (by decide) (star1 rfl) (starAll rfl))) pa_nil (star1 rfl)) (star1 rfl)) (star1 rfl)) (by decide) (star1 rfl) (starAll rfl)))))))) (pss_one (ps_setLc (i := 6) (own := [("_law_k", 7)]) (g := gName 7) (tt := tYes) rfl sc__law_upper.nd rfl rfl (sw_true rfl rfl rfl (by decide +kernel)) (pi_range1 rfl T.z_range (pa_cons (pe_op op_add pe_int (pe_call (ok__law_take T) (hr.mono (by decide)) rfl T.m__law_take T.F__law_take.kp (b__law_take T) .nil pass0 (pa_cons (pv 0) (pa_cons pe_int pa_nil (star1 rfl)) (star1 rfl)) (by decide) (star1 rfl) (starAll rfl))) pa_nil (star1 rfl))) (blkOk_by (N := N__law_upper) (sc := defScope s__law_upper) (by decide +kernel)) (fun _ _ _ _ _ => (pg_name (i := 7) sc__law_upper.nd rfl (Or.inl rfl))) (fun _ _ _ _ _ => pts_nil) (fun _ _ _ _ _ => (pe_call (ok__law_lot T) (hr.mono (by decide)) rfl T.m__law_lot T.F__law_lot.kp (b__law_lot T) .nil pass0 (pa_cons (pv 1) (pa_cons pe_int (pa_cons (pv 5) pa_nil (star1 rfl)) (star1 rfl)) (star1 rfl)) (by decide) (star1 rfl) (starAll rfl))))))
  (pss_cons (ps_if (pt_not (pt_val (pv 2))) (pss_one (ps_expr (pe_bm PySem.F.plainAttrs_list PySem.F.slot_list_insert PySem.F.type_list_insert mt_insert (pv 6) (pa_cons (pe_call (ok__law_take T) (hr.mono (by decide)) rfl T.m__law_take T.F__law_take.kp (b__law_take T) .nil pass0 (pa_cons (pv 0) (pa_cons (pe_op op_add (pe_callB (lenK (K := K) rfl) rfl T.z_len PySem.boot_len (pa_cons (pv 6) pa_nil (star1 rfl)) (by decide) (by decide) (star1 rfl) (starAll rfl)) pe_int) pa_nil (star1 rfl)) (star1 rfl)) (by decide) (star1 rfl) (starAll rfl)) (pa_cons (pe_call (ok__law_lot T) (hr.mono (by decide)) rfl T.m__law_lot T.F__law_lot.kp (b__law_lot T) .nil pass0 (pa_cons (pv 1) (pa_cons pe_int (pa_cons (pe_op op_add (pv 5) pe_int) pa_nil (star1 rfl)) (star1 rfl)) (star1 rfl)) (by decide) (star1 rfl) (starAll rfl)) pa_nil (star1 rfl)) (star1 rfl))))) pss_nil)
  (pss_one (ps_ret (pe_tup (pa_cons (pv 3) (pa_cons (pv 4) (pa_cons (pe_callTy call_tuple_of rfl T.z_tuple (by decide +kernel) (pa_cons (pv 6) pa_nil (star1 rfl)) (by decide) (by decide) (star1 rfl) (starAll rfl)) pa_nil (star1 rfl)) (star1 rfl)) (star1 rfl)))))))), ?_⟩
  have hb : h ≠ bx := A0.ne n0
  refine q_asgG ?_
  refine ⟨_, rfl, bx, k, f, b, rfl, n0, by omega, f0, f1, b0, b1, fun H1 n1 k1 => ?_⟩
  have A1 := A0.kp hb k1
  refine take_at rfl A1 (by omega) (by decide) (by decide) fun r1 H2 r10 r11 A2 k2 => ⟨1, r1, rfl, rfl, ?_⟩
  refine take_at rfl A2 (by omega) (by decide) (by decide) fun r2 H3 r20 r21 A3 k3 => ⟨1, r2, rfl, rfl, ?_⟩
  have n3 := (n1.kp (Ne.symm hb) k2).kp (Ne.symm hb) k3
  refine ⟨(by show 3 ≤ sizeLine; decide), fun p hp => ⟨p, _, rfl, st_of upd_same, rfl, _, _, rfl, _, _, rfl, _, _, rfl, rfl, ?_⟩⟩
  have e4 := Ex.new (o := .tup [.str (nmL f b (k + 1)), .int (1 + r1), .int (1 + r2)]) hp
  have A4 := A3.ex e4
  have n4 := n3.ex e4
  have k04 : Kp h bx H (upd H3 p (.tup [.str (nmL f b (k + 1)), .int (1 + r1), .int (1 + r2)])) := (((kp_r k1).trans (kp_l k2)).trans (kp_l k3)).trans (Kp.ex e4)
  generalize upd H3 p (.tup [.str (nmL f b (k + 1)), .int (1 + r1), .int (1 + r2)]) = H4 at A4 n4 k04
  -- what stands in it
  refine q_ifM (fun σ' H' => ∃ ps xs ts k' c7, σ' = [some (.ref h), some (.ref bx), some (.bl ev), some (.str (nmL f b (k + 1))), some (.int (1 + r1)), some (.int (1 + r2)), some (.ref ps), c7] ∧ Bx H' h (C + 10) ∧ NB H' bx k' f b ∧ Kp h bx H H' ∧ H' ps = some (.lst xs) ∧ ps ≠ h ∧ ps ≠ bx ∧ H ps = none ∧ TrVs H' xs ts ∧ GMs f b (k + 1) k' 1 ts ∧ 1 ≤ ts.length ∧ ts.length ≤ 5 ∧ k + 1 ≤ k' ∧ k' ≤ k + 7) ?_ ?_
  rotate_left
  · intro R hR
    refine take_at rfl A4 (by omega) (by decide) (by decide) fun r3 H5 r30 r31 A5 k5 => ⟨rfl, _, rfl, ?_⟩
    have n5 := n4.kp (Ne.symm hb) k5
    have k05 := k04.trans (kp_l k5)
    refine ite2 (fun _ => ?_) (fun _ => ?_)
    · -- hands, and a group of one hand
      refine q_asgP ?_
      refine take_at rfl A5 (by omega) (by decide) (by decide) fun r4 H6 r40 r41 A6 k6 => ⟨1, r4, rfl, rfl, ⟨1 + r4, rfl, by omega, by omega, fun D hD => ?_⟩⟩
      have n6 := n5.kp (Ne.symm hb) k6
      have k06 := k05.trans (kp_l k6)
      have dh := A6.fresh hD
      have db := n6.fresh hD
      have HD := fresh_kp k06 dh db hD
      refine lc_range (lo := 0) (n := (1 + r4).toNat) (LI h bx f b (C + 1 + 1 + 1 + 1) (k + 1) 1 H6 D) (li_0 hD (A6.up (by omega)) n6) ?_ ?_
      · intro i H7 hi hP
        obtain ⟨xs, ts, k', A7, n7, k7, hacc, tvs, gs, hl, hk0, hkw⟩ := hP
        refine ⟨rfl, tYesQ ?_⟩
        refine ⟨_, rfl, bx, k', f, b, rfl, n7, by omega, f0, f1, b0, b1, fun H8 n8 k8 => ⟨_, k8 _ _ db db hacc, sz_lt (by have := trvs_len tvs; omega), ?_⟩⟩
        exact li_more hD dh db A7 n7 k7 tvs gs hl hk0 hkw ((A7.kp hb k8).up (by omega)) n8 (kp_r k8) (.hand _) (GM.hand (nmL_ok _ _ _)) (by simp [Tr.size]; omega) (Nat.le_refl _) (k8 _ _ db db hacc)
      intro H7 hP
      obtain ⟨xs, ts, k', A7, n7, k7, hacc, tvs, gs, hl, hk0, hkw⟩ := hP
      have hn4 : (1 + r4).toNat ≤ 2 := by omega
      have hn4' : 1 ≤ (1 + r4).toNat := by omega
      have k07 := k06.trans k7
      refine s_asgP ?_
      refine ⟨_, rfl, ?_⟩
      refine take_at rfl A7 (by omega) (by decide) (by decide) fun r5 H8 r50 r51 A8 k8 => ⟨r5, rfl, by omega, by omega, fun D2 hD2 => ?_⟩
      have n8 := n7.kp (Ne.symm hb) k8
      have k08 := k07.trans (kp_l k8)
      have dh2 := A8.fresh hD2
      have db2 := n8.fresh hD2
      have hD8 : H8 D = some (.lst xs) := k8 _ _ dh dh hacc
      have dd : D ≠ D2 := fun z => by
        subst z
        rw [hD8] at hD2
        cases hD2
      have tvs8 := trvs_tk (tk_bx A7 k8) _ _ tvs
      refine lc_range (lo := 0) (n := r5.toNat) (fun i H' => LI h bx f b (C + 1 + 1 + 1 + 1 + (1 + r4).toNat + 1 + i) k' 2 H8 D2 i H') (li_0 hD2 (A8.up (by omega)) n8) ?_ ?_
      · intro i H9 hi hP
        obtain ⟨xs2, ts2, k2', A9, n9, k9, hacc2, tvs2, gs2, hl2, hk02, hkw2⟩ := hP
        refine ⟨rfl, tYesQ ?_⟩
        refine ⟨_, rfl, ?_⟩
        refine take_at rfl A9 (by omega) (by decide) (by decide) fun r6 H10 r60 r61 A10 k10 => ⟨1, r6, rfl, rfl, ?_⟩
        have n10 := n9.kp (Ne.symm hb) k10
        refine ⟨bx, k2', 1, 1 + r6, f, b, rfl, n10, by omega, f0, f1, b0, b1, by decide, by decide, by omega, by omega, fun v n d ms H11 n11 k11 tv11 gm11 sz11 _ => ⟨_, k11 _ _ db2 db2 (k10 _ _ dh2 dh2 hacc2), sz_lt (by have := trvs_len tvs2; omega), ?_⟩⟩
        have := li_more (C := C + 1 + 1 + 1 + 1 + (1 + r4).toNat + 1 + (i + 1)) (w := 2) hD2 dh2 db2 (A9.up (by omega)) n9 k9 tvs2 gs2 hl2 hk02 hkw2 ((A10.kp hb k11).up (by omega)) n11 ((kp_l k10).trans (kp_r k11)) tv11 gm11 (by omega) (by omega) (k11 _ _ db2 db2 (k10 _ _ dh2 dh2 hacc2))
        exact this
      intro H9 hP
      obtain ⟨xs2, ts2, k2', A9, n9, k9, hacc2, tvs2, gs2, hl2, hk02, hkw2⟩ := hP
      have hD9 : H9 D = some (.lst xs) := k9 _ _ dh db hD8
      have l1 := trvs_len tvs
      have l2 := trvs_len tvs2
      have tvs9 := trvs_tk (tk_kp2 A8 n8 k9) _ _ tvs8
      refine ⟨D, D2, xs, xs2, rfl, rfl, hD9, hacc2, sz_of (by omega), fun r hr => ?_⟩
      have n5r : r5.toNat ≤ 1 := by omega
      refine hR _ _ ⟨r, xs ++ xs2, ts ++ ts2, k2', _, rfl, (A9.up (by omega)).new hr, n9.ex (Ex.new hr), (k08.trans k9).trans (Kp.ex (Ex.new hr)), upd_same, A9.fresh hr, n9.fresh hr, fresh_kp (k08.trans k9) (A9.fresh hr) (n9.fresh hr) hr, trvs_tk (TK.new hr) _ _ (trvs_app tvs9 tvs2), ⟨fun t ht => ?_, ?_⟩, by rw [List.length_append]; omega, by rw [List.length_append]; omega, by omega, by omega⟩
      · rcases List.mem_append.mp ht with ht | ht
        · exact (gs.1 t ht).up (Nat.le_refl _) (by omega) (Nat.le_refl _)
        · exact (gs2.1 t ht).up (by omega) (Nat.le_refl _) (Nat.le_refl _)
      · rw [sizes_app]
        have := gs.2
        have := gs2.2
        omega
    · -- groups of two hands
      refine s_asgP ?_
      refine take_at rfl A5 (by omega) (by decide) (by decide) fun r4 H6 r40 r41 A6 k6 => ⟨1, r4, rfl, rfl, ⟨1 + r4, rfl, by omega, by omega, fun D hD => ?_⟩⟩
      have n6 := n5.kp (Ne.symm hb) k6
      have k06 := k05.trans (kp_l k6)
      have dh := A6.fresh hD
      have db := n6.fresh hD
      have HD := fresh_kp k06 dh db hD
      refine lc_range (lo := 0) (n := (1 + r4).toNat) (LI h bx f b (C + 1 + 1 + 1 + 1) (k + 1) 3 H6 D) (li_0 hD (A6.up (by omega)) n6) ?_ ?_
      · intro i H7 hi hP
        obtain ⟨xs, ts, k', A7, n7, k7, hacc, tvs, gs, hl, hk0, hkw⟩ := hP
        refine ⟨rfl, tYesQ ?_⟩
        refine ⟨_, rfl, _, rfl, bx, k', 2, 1 + r2, f, b, rfl, n7, by omega, f0, f1, b0, b1, by decide, by decide, by omega, by omega, fun v n d ms H8 n8 k8 tv8 gm8 sz8 _ => ⟨_, k8 _ _ db db hacc, sz_lt (by have := trvs_len tvs; omega), ?_⟩⟩
        exact li_more hD dh db A7 n7 k7 tvs gs hl hk0 hkw ((A7.kp hb k8).up (by omega)) n8 (kp_r k8) tv8 gm8 (by omega) (by omega) (k8 _ _ db db hacc)
      intro H7 hP
      obtain ⟨xs, ts, k', A7, n7, k7, hacc, tvs, gs, hl, hk0, hkw⟩ := hP
      have hn4 : (1 + r4).toNat ≤ 2 := by omega
      have hn4' : 1 ≤ (1 + r4).toNat := by omega
      exact hR _ _ ⟨D, xs, ts, k', _, rfl, A7.up (by omega), n7, k06.trans k7, hacc, dh, db, HD, tvs, gs, by omega, by omega, hk0, by omega⟩
  intro σ' H5 hM
  obtain ⟨ps, xs, ts, k', c7, rfl, A5, n5, k05, hps, ph, pb, psH, tvs, gs, l1, l2, hk0, hkw⟩ := hM
  have hxl := trvs_len tvs
  refine q_whenM (fun σ' H' => ∃ xs ts k', σ' = [some (.ref h), some (.ref bx), some (.bl ev), some (.str (nmL f b (k + 1))), some (.int (1 + r1)), some (.int (1 + r2)), some (.ref ps), c7] ∧ Bx H' h (C + 12) ∧ NB H' bx k' f b ∧ Kp h bx H H' ∧ H' ps = some (.lst xs) ∧ TrVs H' xs ts ∧ GMs f b (k + 1) k' 1 ts ∧ 1 ≤ ts.length ∧ ts.length ≤ 6 ∧ k + 1 ≤ k' ∧ k' ≤ k + 10) (et_not (et_B (b := ev) (ev_var rfl))) ?_ ?_ ?_
  rotate_left
  · intro R hR hb2 H6 e6
    refine s_dropP ?_
    refine ⟨.ref ps, rfl, Or.inl ⟨rfl, xs, sq_of (e6 _ _ hps)⟩, ?_⟩
    have lenE : Ev (tOp (rI0 fun i j => .int (i + j)) (tCB (rLenS K) (tCons (tVar 6) tNil)) (tC (.int 1))) [some (.ref h), some (.ref bx), some (.bl ev), some (.str (nmL f b (k + 1))), some (.int (1 + r1)), some (.int (1 + r2)), some (.ref ps), c7] H6 (.int ((xs.length : Int) + 1)) := ev_I0 (g := fun i j => .int (i + j)) (ev_len (ev_var rfl) (sq_of (e6 _ _ hps))) ev_c
    refine ⟨_, rfl, lenE H6 (Ex.refl H6) _ fun H7 e7 => ⟨h, _, _, rfl, A5.ex (e6.trans e7), by omega, by omega, by omega, fun r6 H8 r60 r61 A8 k8 => ?_⟩⟩
    have n8 := (n5.ex (e6.trans e7)).kp (Ne.symm hb) k8
    refine ⟨_, rfl, _, rfl, 1 + r2, 1, rfl, rfl, bx, k', 2, 1 + r2 + 1, f, b, rfl, n8, by omega, f0, f1, b0, b1, by decide, by decide, by omega, by omega, fun v n d ms H9 n9 k9 tv9 gm9 sz9 _ => ?_⟩
    have e57 := e6.trans e7
    have hps9 : H9 ps = some (.lst xs) := k9 _ _ pb pb (k8 _ _ ph ph (e57 _ _ hps))
    have A9 := A8.kp hb k9
    have tk9 : TK H5 H9 := ((TK.ex e57).trans (tk_bx (A5.ex e57) k8)).trans (tk_nb n8 k9)
    have k09 := (((k05.trans (Kp.ex e57)).trans (kp_l k8)).trans (kp_r k9))
    refine ⟨ps, xs, r6, v, rfl, rfl, hps9, sz_lt (by omega), r60, by omega, ?_⟩
    have tkP : TK H9 (upd H9 ps (.lst (xs.take r6.toNat ++ [v] ++ xs.drop r6.toNat))) := TK.lst hps9
    refine hR _ _ ⟨_, ts.take r6.toNat ++ [.grp n d ms] ++ ts.drop r6.toNat, k' + 1 + 2, rfl, ?_, ?_, ?_, upd_same, trvs_tk tkP _ _ (trvs_ins (trvs_tk tk9 _ _ tvs) tv9), GMs.ins (mid := k') (by rw [List.take_append_drop]; exact gs) gm9 (by omega) (by omega), ?_, ?_, by omega, by omega⟩
    · obtain ⟨nn, mm, cc, B⟩ := A9
      exact ⟨nn, mm, cc, by rw [upd_ne (Ne.symm ph)]; exact B.hh, B.n0, B.m0, B.m1, B.c0, by have := B.c1; omega⟩
    · show upd H9 ps _ bx = _
      rw [upd_ne (Ne.symm pb)]
      exact n9
    · intro a o u1 u2 ha
      have : a ≠ ps := fun z => by
        subst z
        rw [psH] at ha
        cases ha
      rw [upd_ne this]
      exact k09 a o u1 u2 ha
    · simp only [List.length_append, List.length_take, List.length_drop, List.length_singleton]
      omega
    · simp only [List.length_append, List.length_take, List.length_drop, List.length_singleton]
      omega
  · intro hb2 H6 e6
    exact ⟨xs, ts, k', rfl, (A5.ex e6).up (by omega), n5.ex e6, k05.trans (Kp.ex e6), e6 _ _ hps, trvs_tk (TK.ex e6) _ _ tvs, gs, l1, by omega, hk0, by omega⟩
  intro σ' H6 hM
  obtain ⟨xs, ts, k', rfl, A6, n6, k06, hps6, tvs6, gs6, l16, l26, hk06, hkw6⟩ := hM
  refine s_retP ?_
  refine ⟨_, rfl, _, rfl, _, rfl, ps, xs, rfl, Or.inl ⟨sq_of hps6, fun t ht => ⟨(by show 3 ≤ sizeLine; decide), fun g hg => ?_⟩⟩⟩
  have e7 := (Ex.new (o := .tup xs) ht).trans (Ex.new (o := .tup [.str (nmL f b (k + 1)), .int (1 + r1), .ref t]) hg)
  refine q (.ref g) (.grp (nmL f b (k + 1)) (1 + r1) ts) _ k' ((A6.ex e7).up (by omega)) (n6.ex e7) (k06.trans (Kp.ex e7)) (.grp upd_same ((Ex.new hg) _ _ upd_same) (trvs_tk (TK.ex e7) _ _ tvs6)) (GMs.grp (lo := k + 1) (d := 1) gs6 (fun z => by rw [z] at l16; cases l16) (by omega) (by omega) (by omega) hk06 (by omega)) ?_ hkw6
  have := gs6.2
  simp only [Tr.size]
  omega
end

/-! ### a plan -/
theorem q_asgM {te : TE} {tz : TS} {D : Ends} {σ : L2.St} {H : Hp} {i : Nat} (M : V → Hp → Prop) (h : ∀ R : V → Hp → Prop, (∀ v H', M v H' → R v H') → te σ H R) (k : ∀ v H', M v H' → tz D (σ.set i (some v)) H') : tSeq (tAsg te (gName i)) tz D σ H := h (fun v H1 => tz D (σ.set i (some v)) H1) k
structure PG (n : Str) (d : Int) (ms : List Tr) : Prop where
  ok : (Tr.grp n d ms).ok
  dp : (Tr.grp n d ms).deep ≤ 3
  nm : ∀ x ∈ (Tr.grp n d ms).nms, nameOk x
  sz : (Tr.grp n d ms).size ≤ 30
  un : n ∉ gns ms
def spPlan : Sp := fun vs H Q _ => ∃ (h : Addr) (ev : Bool) (C : Nat), vs = [.ref h, .bl ev] ∧ Bx H h C ∧ C ≤ 50000 ∧ ∀ v n d ms H', Bx H' h (C + 60) → Kp h h H H' → TrV H' v (.grp n d ms) → PG n d ms → Q v H'
section
variable {P : Program} {w : World} {K : PySem.W.Frag} {mg : Str → Option Value} {base : Heap}
theorem ok__law_plan (T : Tp w K mg) : FnOk P w K mg base CX0 4 T.f__law_plan T.d__law_plan ["_law_hand_here", "_law_even"] spPlan := by
  refine T.F__law_plan.ok sc__law_plan (fun vs H Q E h => ?_) (fun cdv A outer s H vs Q E hr h => ?_)
  · obtain ⟨h, ev, C, rfl, _⟩ := h
    rfl
  obtain ⟨h, ev, C, rfl, A0, hC, q⟩ := h
  refine ⟨_, (pss_cons (ps_set (i := 2) sc__law_plan.nd rfl (Or.inl rfl) (pe_disp (pps_cons pe_str pe_int (pps_cons pe_str (pe_call (ok__law_take T) (hr.mono (by decide)) rfl T.m__law_take T.F__law_take.kp (b__law_take T) .nil pass0 (pa_cons (pv 0) (pa_cons pe_int pa_nil (star1 rfl)) (star1 rfl)) (by decide) (star1 rfl) (starAll rfl)) (pps_cons pe_str (pe_call (ok__law_pick T) (hr.mono (by decide)) rfl T.m__law_pick T.F__law_pick.kp (b__law_pick T) .nil pass0 (pa_cons (pv 0) (pa_cons (pe_lst (pa_cons pe_int (pa_cons pe_int (pa_cons pe_int (pa_cons pe_int (pa_cons pe_int (pa_cons pe_int (pa_cons pe_int pa_nil (star1 rfl)) (star1 rfl)) (star1 rfl)) (star1 rfl)) (star1 rfl)) (star1 rfl)) (star1 rfl))) pa_nil (star1 rfl)) (star1 rfl)) (by decide) (star1 rfl) (starAll rfl)) pps_nil))) (by rfl) (by rfl) (fun z => by cases z) (by decide)))
  (pss_cons (ps_set (i := 3) sc__law_plan.nd rfl (Or.inl rfl) (pe_ifExp (pt_val (pv 1)) (pe_call (ok__law_take T) (hr.mono (by decide)) rfl T.m__law_take T.F__law_take.kp (b__law_take T) .nil pass0 (pa_cons (pv 0) (pa_cons pe_int pa_nil (star1 rfl)) (star1 rfl)) (by decide) (star1 rfl) (starAll rfl)) pe_int))
  (pss_cons (ps_if (pt_cmpR op_eq (pv 3) pe_int (nomark _)) (pss_one (ps_ret (pe_call (ok__law_lot T) (hr.mono (by decide)) rfl T.m__law_lot T.F__law_lot.kp (b__law_lot T) .nil pass0 (pa_cons (pv 2) (pa_cons (pe_op op_add pe_int (pe_call (ok__law_take T) (hr.mono (by decide)) rfl T.m__law_take T.F__law_take.kp (b__law_take T) .nil pass0 (pa_cons (pv 0) (pa_cons pe_int pa_nil (star1 rfl)) (star1 rfl)) (by decide) (star1 rfl) (starAll rfl))) (pa_cons (pe_op op_add pe_int (pe_call (ok__law_take T) (hr.mono (by decide)) rfl T.m__law_take T.F__law_take.kp (b__law_take T) .nil pass0 (pa_cons (pv 0) (pa_cons pe_int pa_nil (star1 rfl)) (star1 rfl)) (by decide) (star1 rfl) (starAll rfl))) pa_nil (star1 rfl)) (star1 rfl)) (star1 rfl)) (by decide) (star1 rfl) (starAll rfl)))) pss_nil)
  (pss_cons (ps_par rfl sc__law_plan.nd (i := 4) (j := 5) rfl rfl (by decide) rfl rfl (pa_cons (pe_call (ok__law_name T) (hr.mono (by decide)) rfl T.m__law_name T.F__law_name.kp (b__law_name T) .nil pass0 (pa_cons (pv 2) pa_nil (star1 rfl)) (by decide) (star1 rfl) (starAll rfl)) (pa_cons (pe_lst pa_nil) pa_nil (star1 rfl)) (star1 rfl)) (by rfl))
  (pss_cons (ps_for PassesOwn.never rfl (pi_range1 rfl T.z_range (pa_cons (pe_op op_add pe_int (pe_call (ok__law_take T) (hr.mono (by decide)) rfl T.m__law_take T.F__law_take.kp (b__law_take T) .nil pass0 (pa_cons (pv 0) (pa_cons pe_int pa_nil (star1 rfl)) (star1 rfl)) (by decide) (star1 rfl) (starAll rfl))) pa_nil (star1 rfl))) (pg_name (i := 6) sc__law_plan.nd rfl (Or.inl rfl)) (pss_one (ps_expr (pe_bm PySem.F.plainAttrs_list PySem.F.slot_list_append PySem.F.type_list_append mt_append (pv 5) (pa_cons (pe_call (ok__law_lot T) (hr.mono (by decide)) rfl T.m__law_lot T.F__law_lot.kp (b__law_lot T) .nil pass0 (pa_cons (pv 2) (pa_cons (pe_op op_add pe_int (pe_call (ok__law_take T) (hr.mono (by decide)) rfl T.m__law_take T.F__law_take.kp (b__law_take T) .nil pass0 (pa_cons (pv 0) (pa_cons pe_int pa_nil (star1 rfl)) (star1 rfl)) (by decide) (star1 rfl) (starAll rfl))) (pa_cons (pe_op op_add pe_int (pe_call (ok__law_take T) (hr.mono (by decide)) rfl T.m__law_take T.F__law_take.kp (b__law_take T) .nil pass0 (pa_cons (pv 0) (pa_cons pe_int pa_nil (star1 rfl)) (star1 rfl)) (by decide) (star1 rfl) (starAll rfl))) pa_nil (star1 rfl)) (star1 rfl)) (star1 rfl)) (by decide) (star1 rfl) (starAll rfl)) pa_nil (star1 rfl))))))
  (pss_cons (ps_if (pt_cmpR op_gt (pv 3) pe_int (nomark _)) (pss_one (ps_expr (pe_bm PySem.F.plainAttrs_list PySem.F.slot_list_insert PySem.F.type_list_insert mt_insert (pv 5) (pa_cons (pe_call (ok__law_take T) (hr.mono (by decide)) rfl T.m__law_take T.F__law_take.kp (b__law_take T) .nil pass0 (pa_cons (pv 0) (pa_cons (pe_op op_add (pe_callB (lenK (K := K) rfl) rfl T.z_len PySem.boot_len (pa_cons (pv 5) pa_nil (star1 rfl)) (by decide) (by decide) (star1 rfl) (starAll rfl)) pe_int) pa_nil (star1 rfl)) (star1 rfl)) (by decide) (star1 rfl) (starAll rfl)) (pa_cons (pe_call (ok__law_upper T) (hr.mono (by decide)) rfl T.m__law_upper T.F__law_upper.kp (b__law_upper T) .nil pass0 (pa_cons (pv 0) (pa_cons (pv 2) (pa_cons (pv 1) pa_nil (star1 rfl)) (star1 rfl)) (star1 rfl)) (by decide) (star1 rfl) (starAll rfl)) pa_nil (star1 rfl)) (star1 rfl))))) pss_nil)
  (pss_cons (ps_if (pt_cmpR op_eq (pe_call (ok__law_take T) (hr.mono (by decide)) rfl T.m__law_take T.F__law_take.kp (b__law_take T) .nil pass0 (pa_cons (pv 0) (pa_cons pe_int pa_nil (star1 rfl)) (star1 rfl)) (by decide) (star1 rfl) (starAll rfl)) pe_int (nomark _)) (pss_one (ps_expr (pe_bm PySem.F.plainAttrs_list PySem.F.slot_list_insert PySem.F.type_list_insert mt_insert (pv 5) (pa_cons (pe_call (ok__law_take T) (hr.mono (by decide)) rfl T.m__law_take T.F__law_take.kp (b__law_take T) .nil pass0 (pa_cons (pv 0) (pa_cons (pe_op op_add (pe_callB (lenK (K := K) rfl) rfl T.z_len PySem.boot_len (pa_cons (pv 5) pa_nil (star1 rfl)) (by decide) (by decide) (star1 rfl) (starAll rfl)) pe_int) pa_nil (star1 rfl)) (star1 rfl)) (by decide) (star1 rfl) (starAll rfl)) (pa_cons (pe_call (ok__law_name T) (hr.mono (by decide)) rfl T.m__law_name T.F__law_name.kp (b__law_name T) .nil pass0 (pa_cons (pv 2) pa_nil (star1 rfl)) (by decide) (star1 rfl) (starAll rfl)) pa_nil (star1 rfl)) (star1 rfl))))) pss_nil)
  (pss_one (ps_ret (pe_tup (pa_cons (pv 4) (pa_cons (pe_op op_add pe_int (pe_call (ok__law_take T) (hr.mono (by decide)) rfl T.m__law_take T.F__law_take.kp (b__law_take T) .nil pass0 (pa_cons (pv 0) (pa_cons pe_int pa_nil (star1 rfl)) (star1 rfl)) (by decide) (star1 rfl) (starAll rfl))) (pa_cons (pe_callTy call_tuple_of rfl T.z_tuple (by decide +kernel) (pa_cons (pv 5) pa_nil (star1 rfl)) (by decide) (by decide) (star1 rfl) (starAll rfl)) pa_nil (star1 rfl)) (star1 rfl)) (star1 rfl)))))))))))), ?_⟩
  refine q_asgP ?_
  intro bx hbx
  have hbh : bx ≠ h := A0.fresh hbx
  have A1 := A0.new (o := .dK []) hbx
  refine take_at rfl A1 (by omega) (by decide) (by decide) fun f H2 f0 f1 A2 k2 => ?_
  refine ⟨_, rfl, (by show 7 ≤ sizeLine; decide), fun pl hpl => ⟨h, pl, _, _, rfl, A2.new hpl, by omega, upd_same, A2.fresh hpl, by decide, by decide, fun bv H3 hm A3 k3 => ?_⟩⟩
  obtain ⟨b, rfl, hby⟩ : ∃ b : Int, bv = .int b ∧ byOk b := by
    simp only [List.mem_cons, List.not_mem_nil, or_false] at hm
    rcases hm with z | z | z | z | z | z | z
    · exact ⟨1, z, .inl rfl⟩
    · exact ⟨3, z, .inr (.inl rfl)⟩
    · exact ⟨5, z, .inr (.inr (.inl rfl))⟩
    · exact ⟨7, z, .inr (.inr (.inr (.inl rfl)))⟩
    · exact ⟨9, z, .inr (.inr (.inr (.inr (.inl rfl))))⟩
    · exact ⟨11, z, .inr (.inr (.inr (.inr (.inr (.inl rfl)))))⟩
    · exact ⟨25, z, .inr (.inr (.inr (.inr (.inr (.inr rfl)))))⟩
  have b0 : 0 ≤ b ∧ b ≤ 1000 := by rcases hby with z | z | z | z | z | z | z <;> omega
  have k13 : Kp h h (upd H bx (.dK [])) H3 := (k2.trans (Kp.ex (Ex.new hpl))).trans k3
  have hb3 : H3 bx = some (.dK []) := k13 _ _ hbh hbh upd_same
  refine ⟨hb3, [(Sum.inr (Str.ofString "next"), .int 0), (Sum.inr (Str.ofString "first"), .int f), (Sum.inr (Str.ofString "by"), .int b)], rfl, (by show 3 ≤ 15; decide), ?_⟩
  have n4 : NB (upd H3 bx (.dK (mergeK [] [(Sum.inr (Str.ofString "next"), V.int 0), (Sum.inr (Str.ofString "first"), .int f), (Sum.inr (Str.ofString "by"), .int b)]))) bx 0 f b := by
    show upd _ _ _ _ = _
    rw [upd_same]
    have d1 : (Sum.inr (Str.ofString "next") : L2.Key) ≠ Sum.inr (Str.ofString "first") := by decide +kernel
    have d2 : (Sum.inr (Str.ofString "next") : L2.Key) ≠ Sum.inr (Str.ofString "by") := by decide +kernel
    have d3 : (Sum.inr (Str.ofString "first") : L2.Key) ≠ Sum.inr (Str.ofString "by") := by decide +kernel
    simp [mergeK, putK, d1, d2, d3]
  have A4 : Bx (upd H3 bx (.dK (mergeK [] [(Sum.inr (Str.ofString "next"), V.int 0), (Sum.inr (Str.ofString "first"), .int f), (Sum.inr (Str.ofString "by"), .int b)]))) h (C + 1 + 1) := by
    obtain ⟨x1, x2, x3, B⟩ := A3
    exact ⟨x1, x2, x3, by rw [upd_ne (Ne.symm hbh)]; exact B.hh, B.n0, B.m0, B.m1, B.c0, B.c1⟩
  have k04 : Kp h bx H (upd H3 bx (.dK (mergeK [] [(Sum.inr (Str.ofString "next"), V.int 0), (Sum.inr (Str.ofString "first"), .int f), (Sum.inr (Str.ofString "by"), .int b)]))) := fun a o u1 u2 ha => by
    rw [upd_ne u2]
    exact k13 a o u1 u1 ((Ex.new hbx) _ _ ha)
  generalize upd H3 bx (.dK (mergeK [] [(Sum.inr (Str.ofString "next"), V.int 0), (Sum.inr (Str.ofString "first"), .int f), (Sum.inr (Str.ofString "by"), .int b)])) = H4 at n4 A4 k04
  have hb : h ≠ bx := Ne.symm hbh
  have back : ∀ {H'}, Kp h bx H H' → Kp h h H H' := fun k a o u1 u2 ha => by
    refine k a o u1 (fun z => ?_) ha
    subst z
    rw [hbx] at ha
    cases ha
  refine q_asgM (fun v H' => ∃ wy : Int, v = .int wy ∧ 0 ≤ wy ∧ Bx H' h (C + 3) ∧ NB H' bx 0 f b ∧ Kp h bx H H') ?_ ?_
  · intro R hR
    refine ⟨.bl ev, rfl, ev, rfl, ?_⟩
    cases ev with
    | true =>
      refine iteT ?_
      exact take_at rfl A4 (by omega) (by decide) (by decide) fun r H5 r0 r1 A5 k5 => hR _ _ ⟨r, rfl, r0, A5, n4.kp hbh k5, k04.trans (kp_l k5)⟩
    | false =>
      refine iteF ?_
      exact hR _ _ ⟨2, rfl, by decide, A4.up (by omega), n4, k04⟩
  intro v H5 hM
  obtain ⟨wy, rfl, wy0, A5, n5, k05⟩ := hM
  refine q_when (et_test (ev_eq (ev_var rfl) ev_c rfl)) (fun hb0 H6 e6 => ?_) (fun hb0 H6 e6 => ?_)
  · refine s_retP ?_
    refine ⟨_, rfl, ?_⟩
    refine take_at rfl (A5.ex e6) (by omega) (by decide) (by decide) fun r1 H7 r10 r11 A7 k7 => ⟨1, r1, rfl, rfl, ?_⟩
    refine take_at rfl A7 (by omega) (by decide) (by decide) fun r2 H8 r20 r21 A8 k8 => ⟨1, r2, rfl, rfl, ?_⟩
    have n8 := ((n5.ex e6).kp hbh k7).kp hbh k8
    have em : (1 + r1 : Int) = (((1 + r1).toNat : Nat) : Int) := by omega
    refine ⟨bx, 0, (1 + r1).toNat, 1 + r2, f, b, by rw [← em]; rfl, n8, by omega, f0, by omega, b0.1, b0.2, by omega, by omega, by omega, by omega, fun v n d ms H9 n9 k9 tv9 gm9 sz9 fin => ?_⟩
    refine q v n d ms H9 ((A8.kp hb k9).up (by omega)) (back ((((k05.trans (Kp.ex e6)).trans (kp_l k7)).trans (kp_l k8)).trans (kp_r k9))) tv9 ⟨gm9.ok, Nat.le_trans gm9.dp (by decide), gm9.nm, by omega, by rw [fin.2]; exact List.not_mem_nil⟩
  refine q_parP ?_
  refine ⟨_, rfl, bx, 0, f, b, rfl, n5.ex e6, by omega, f0, by omega, b0.1, b0.2, fun H7 n7 k7 => ⟨(by show 0 ≤ sizeLine; decide), fun ps hps => ⟨_, _, rfl, ?_⟩⟩⟩
  have A7 := (A5.ex e6).kp hb k7
  have k07 : Kp h bx H H7 := (k05.trans (Kp.ex e6)).trans (kp_r k7)
  have ph := A7.fresh hps
  have pb := n7.fresh hps
  have psH := fresh_kp k07 ph pb hps
  have e8 := Ex.new (o := .lst []) hps
  have h8 : upd H7 ps (.lst []) ps = some (.lst []) := upd_same
  have A8 := A7.ex e8
  have n8 := n7.ex e8
  have k08 := k07.trans (Kp.ex e8)
  generalize upd H7 ps (.lst []) = H8 at h8 A8 n8 k08
  have mutK : ∀ {H' : Hp} {ys : List V}, Kp h bx H H' → Kp h bx H (upd H' ps (.lst ys)) := fun k a o u1 u2 ha => by
    have : a ≠ ps := fun z => by
      subst z
      rw [psH] at ha
      cases ha
    rw [upd_ne this]
    exact k a o u1 u2 ha
  have mutA : ∀ {H' : Hp} {ys : List V} {C : Nat}, Bx H' h C → Bx (upd H' ps (.lst ys)) h C := fun A => by
    obtain ⟨x1, x2, x3, B⟩ := A
    exact ⟨x1, x2, x3, by rw [upd_ne (Ne.symm ph)]; exact B.hh, B.n0, B.m0, B.m1, B.c0, B.c1⟩
  have mutN : ∀ {H' : Hp} {ys : List V} {k : Nat}, NB H' bx k f b → NB (upd H' ps (.lst ys)) bx k f b := fun n => by
    show upd _ _ _ _ = _
    rw [upd_ne (Ne.symm pb)]
    exact n
  refine q_forU ?_
  refine take_at rfl A8 (by omega) (by decide) (by decide) fun r3 H9 r30 r31 A9 k9 => ⟨1, r3, rfl, rfl, 1 + r3, rfl, by omega, by omega, ?_⟩
  refine rng_turns (n := (1 + r3).toNat) (fun i σ' H' => ∃ xs ts k' c6, σ' = [some (.ref h), some (.bl ev), some (.ref bx), some (.int wy), some (.str (nmL f b 1)), some (.ref ps), c6] ∧ Bx H' h (C + 4 + 2 * i) ∧ NB H' bx k' f b ∧ Kp h bx H H' ∧ H' ps = some (.lst xs) ∧ TrVs H' xs ts ∧ GMs f b 1 k' 2 ts ∧ ts.length = i ∧ 1 ≤ k' ∧ k' ≤ 1 + 4 * i) ?_ ?_ ?_
  · exact ⟨[], [], 1, _, rfl, A9, n8.kp hbh k9, k08.trans (kp_l k9), k9 _ _ ph ph h8, .nil, ⟨(fun t ht => by cases ht), by simp [sizes]⟩, rfl, Nat.le_refl _, by omega⟩
  · intro i σ' H10 hi hP
    obtain ⟨xs, ts, k', c6, rfl, A10, n10, k10, hps10, tvs, gs, hl, hk0, hkw⟩ := hP
    have hi2 : i < 2 := by omega
    refine s_dropP ?_
    refine ⟨.ref ps, rfl, Or.inl ⟨rfl, xs, sq_of hps10⟩, _, rfl, ?_⟩
    refine take_at rfl A10 (by omega) (by decide) (by decide) fun r4 H11 r40 r41 A11 k11 => ⟨1, r4, rfl, rfl, ?_⟩
    refine take_at rfl A11 (by omega) (by decide) (by decide) fun r5 H12 r50 r51 A12 k12 => ⟨1, r5, rfl, rfl, ?_⟩
    have n12 := (n10.kp hbh k11).kp hbh k12
    have em : (1 + r4 : Int) = (((1 + r4).toNat : Nat) : Int) := by omega
    refine ⟨bx, k', (1 + r4).toNat, 1 + r5, f, b, by rw [← em]; rfl, n12, by omega, f0, by omega, b0.1, b0.2, by omega, by omega, by omega, by omega, fun v n d ms H13 n13 k13 tv13 gm13 sz13 _ => ?_⟩
    have hps13 : H13 ps = some (.lst xs) := k13 _ _ pb pb (k12 _ _ ph ph (k11 _ _ ph ph hps10))
    have l1 := trvs_len tvs
    refine ⟨ps, xs, v, rfl, rfl, hps13, sz_lt (by omega), ?_⟩
    have tk13 : TK H10 H13 := ((tk_bx A10 k11).trans (tk_bx A11 k12)).trans (tk_nb n12 k13)
    have tkP : TK H13 (upd H13 ps (.lst (xs ++ [v]))) := TK.lst hps13
    refine ⟨xs ++ [v], ts ++ [.grp n d ms], k' + 1 + (1 + r4).toNat, _, rfl, mutA ((A12.kp hb k13).up (by omega)), mutN n13, mutK (((k10.trans (kp_l k11)).trans (kp_l k12)).trans (kp_r k13)), upd_same, trvs_tk tkP _ _ (trvs_app (trvs_tk tk13 _ _ tvs) (.cons tv13 .nil)), GMs.app gs (gm13.up (Nat.le_refl _) (Nat.le_refl _) (by decide)) (by omega) hk0, by rw [List.length_append]; simp [hl], by omega, by omega⟩
  intro σ' H10 hP
  obtain ⟨xs, ts, k', c6, rfl, A10, n10, k10, hps10, tvs, gs, hl, hk0, hkw⟩ := hP
  have hn3 : (1 + r3).toNat ≤ 2 := by omega
  have hn3' : 1 ≤ (1 + r3).toNat := by omega
  -- a group of groups
  refine q_whenM (fun σ' H' => ∃ xs ts k', σ' = [some (.ref h), some (.bl ev), some (.ref bx), some (.int wy), some (.str (nmL f b 1)), some (.ref ps), c6] ∧ Bx H' h (C + 30) ∧ NB H' bx k' f b ∧ Kp h bx H H' ∧ H' ps = some (.lst xs) ∧ TrVs H' xs ts ∧ GMs f b 1 k' 2 ts ∧ 1 ≤ ts.length ∧ ts.length ≤ 3 ∧ 1 ≤ k' ∧ k' ≤ 19) (et_test (ev_I0 (ev_var rfl) ev_c)) ?_ ?_ ?_
  rotate_left
  · intro R hR hb2 H11 e11
    refine s_dropP ?_
    refine ⟨.ref ps, rfl, Or.inl ⟨rfl, xs, sq_of (e11 _ _ hps10)⟩, ?_⟩
    have lenE : Ev (tOp (rI0 fun i j => .int (i + j)) (tCB (rLenS K) (tCons (tVar 5) tNil)) (tC (.int 1))) [some (.ref h), some (.bl ev), some (.ref bx), some (.int wy), some (.str (nmL f b 1)), some (.ref ps), c6] H11 (.int ((xs.length : Int) + 1)) := ev_I0 (g := fun i j => .int (i + j)) (ev_len (ev_var rfl) (sq_of (e11 _ _ hps10))) ev_c
    have l1 := trvs_len tvs
    refine ⟨_, rfl, lenE H11 (Ex.refl H11) _ fun H12 e12 => ⟨h, _, _, rfl, A10.ex (e11.trans e12), by omega, by omega, by omega, fun r6 H13 r60 r61 A13 k13 => ?_⟩⟩
    have e112 := e11.trans e12
    have n13 := (n10.ex e112).kp hbh k13
    refine ⟨_, rfl, _, rfl, _, rfl, h, bx, ev, _, k', f, b, rfl, A13, by omega, n13, by omega, f0, by omega, b0.1, b0.2, fun v t H14 k'' A14 n14 k14 tv14 gm14 sz14 hk14 => ?_⟩
    have hps14 : H14 ps = some (.lst xs) := k14 _ _ ph pb (k13 _ _ ph ph (e112 _ _ hps10))
    have tk14 : TK H10 H14 := ((TK.ex e112).trans (tk_bx (A10.ex e112) k13)).trans (tk_kp2 A13 n13 k14)
    refine ⟨ps, xs, r6, v, rfl, rfl, hps14, sz_lt (by omega), r60, by omega, ?_⟩
    have tkP : TK H14 (upd H14 ps (.lst (xs.take r6.toNat ++ [v] ++ xs.drop r6.toNat))) := TK.lst hps14
    refine hR _ _ ⟨_, ts.take r6.toNat ++ [t] ++ ts.drop r6.toNat, k'', rfl, mutA (A14.up (by omega)), mutN n14, mutK (((k10.trans (Kp.ex e112)).trans (kp_l k13)).trans k14), upd_same, trvs_tk tkP _ _ (trvs_ins (trvs_tk tk14 _ _ tvs) tv14), GMs.ins (mid := k') (by rw [List.take_append_drop]; exact gs) gm14 (by omega) (by omega), ?_, ?_, by omega, by omega⟩
    · simp only [List.length_append, List.length_take, List.length_drop, List.length_singleton]
      omega
    · simp only [List.length_append, List.length_take, List.length_drop, List.length_singleton]
      omega
  · intro hb2 H11 e11
    exact ⟨xs, ts, k', rfl, (A10.ex e11).up (by omega), n10.ex e11, k10.trans (Kp.ex e11), e11 _ _ hps10, trvs_tk (TK.ex e11) _ _ tvs, gs, by omega, by omega, hk0, by omega⟩
  intro σ' H11 hM
  obtain ⟨xs, ts, k', rfl, A11, n11, k11, hps11, tvs, gs, l1, l2, hk0, hkw⟩ := hM
  -- a hand beside them
  refine q_ifM (fun σ' H' => ∃ xs ts k', σ' = [some (.ref h), some (.bl ev), some (.ref bx), some (.int wy), some (.str (nmL f b 1)), some (.ref ps), c6] ∧ Bx H' h (C + 32) ∧ NB H' bx k' f b ∧ Kp h bx H H' ∧ H' ps = some (.lst xs) ∧ TrVs H' xs ts ∧ GMs f b 1 k' 2 ts ∧ 1 ≤ ts.length ∧ 1 ≤ k' ∧ k' ≤ 20) ?_ ?_
  rotate_left
  · intro R hR
    refine take_at rfl A11 (by omega) (by decide) (by decide) fun r7 H12 r70 r71 A12 k12 => ⟨rfl, _, rfl, ?_⟩
    have n12 := n11.kp hbh k12
    have hps12 : H12 ps = some (.lst xs) := k12 _ _ ph ph hps11
    have tvs12 := trvs_tk (tk_bx A11 k12) _ _ tvs
    refine ite2 (fun _ => ?_) (fun _ => ?_)
    · refine s_dropP ?_
      refine ⟨.ref ps, rfl, Or.inl ⟨rfl, xs, sq_of hps12⟩, ?_⟩
      have lenE : Ev (tOp (rI0 fun i j => .int (i + j)) (tCB (rLenS K) (tCons (tVar 5) tNil)) (tC (.int 1))) [some (.ref h), some (.bl ev), some (.ref bx), some (.int wy), some (.str (nmL f b 1)), some (.ref ps), c6] H12 (.int ((xs.length : Int) + 1)) := ev_I0 (g := fun i j => .int (i + j)) (ev_len (ev_var rfl) (sq_of hps12)) ev_c
      have l3 := trvs_len tvs
      refine ⟨_, rfl, lenE H12 (Ex.refl H12) _ fun H13 e13 => ⟨h, _, _, rfl, A12.ex e13, by omega, by omega, by omega, fun r8 H14 r80 r81 A14 k14 => ?_⟩⟩
      have n14 := (n12.ex e13).kp hbh k14
      refine ⟨_, rfl, bx, k', f, b, rfl, n14, by omega, f0, by omega, b0.1, b0.2, fun H15 n15 k15 => ?_⟩
      have hps15 : H15 ps = some (.lst xs) := k15 _ _ pb pb (k14 _ _ ph ph (e13 _ _ hps12))
      have tk15 : TK H12 H15 := ((TK.ex e13).trans (tk_bx (A12.ex e13) k14)).trans (tk_nb n14 k15)
      refine ⟨ps, xs, r8, _, rfl, rfl, hps15, sz_lt (by omega), r80, by omega, ?_⟩
      have tkP : TK H15 (upd H15 ps (.lst (xs.take r8.toNat ++ [V.str (nmL f b (k' + 1))] ++ xs.drop r8.toNat))) := TK.lst hps15
      refine hR _ _ ⟨_, ts.take r8.toNat ++ [.hand (nmL f b (k' + 1))] ++ ts.drop r8.toNat, k' + 1, rfl, mutA ((A14.kp hb k15).up (by omega)), mutN n15, mutK ((((k11.trans (kp_l k12)).trans (Kp.ex e13)).trans (kp_l k14)).trans (kp_r k15)), upd_same, trvs_tk tkP _ _ (trvs_ins (trvs_tk tk15 _ _ tvs12) (.hand _)), GMs.ins (mid := k') (by rw [List.take_append_drop]; exact gs) (GM.hand (nmL_ok _ _ _)) (by simp only [Tr.size]; omega) (by omega), ?_, by omega, by omega⟩
      simp only [List.length_append, List.length_take, List.length_drop, List.length_singleton]
      omega
    · exact s_next (hR _ _ ⟨xs, ts, k', rfl, A12.up (by omega), n12, k11.trans (kp_l k12), hps12, tvs12, gs, l1, hk0, by omega⟩)
  intro σ' H12 hM
  obtain ⟨xs, ts, k', rfl, A12, n12, k12, hps12, tvs, gs, l1, hk0, hkw⟩ := hM
  refine s_retP ?_
  refine ⟨_, rfl, ?_⟩
  refine take_at rfl A12 (by omega) (by decide) (by decide) fun r9 H13 r90 r91 A13 k13 => ⟨1, r9, rfl, rfl, ?_⟩
  have hps13 : H13 ps = some (.lst xs) := k13 _ _ ph ph hps12
  refine ⟨_, rfl, ps, xs, rfl, Or.inl ⟨sq_of hps13, fun t ht => ⟨(by show 3 ≤ sizeLine; decide), fun g hg => ?_⟩⟩⟩
  have e14 := (Ex.new (o := .tup xs) ht).trans (Ex.new (o := .tup [.str (nmL f b 1), .int (1 + r9), .ref t]) hg)
  have tv : TrVs _ xs ts := trvs_tk ((tk_bx A12 k13).trans (TK.ex e14)) _ _ tvs
  have gg : GM f b 0 k' 3 (.grp (nmL f b 1) (1 + r9) ts) := GMs.grp (lo := 1) (d := 2) gs (fun z => by rw [z] at l1; cases l1) (by omega) (by omega) (by omega) hk0 (by omega)
  refine q (.ref g) (nmL f b 1) (1 + r9) ts _ ((A13.ex e14).up (by omega)) (back ((k12.trans (kp_l k13)).trans (Kp.ex e14))) (.grp upd_same ((Ex.new hg) _ _ upd_same) tv) ⟨gg.ok, gg.dp, gg.nm, ?_, fun z => ?_⟩
  · have := gs.2
    simp only [Tr.size]
    omega
  · obtain ⟨u, hu, hx⟩ := mem_gns z
    obtain ⟨j, j1, j2, e⟩ := (gs.1 u hu).gn _ hx
    exact nmL_ne hby (i := 1) (j := j) j1 (by omega) e
end

/-! ### even plans, by the law -/
mutual
def gsT : Tr → List Tr
  | .hand _ => []
  | .grp n b ms => .grp n b ms :: gssT ms
def gssT : List Tr → List Tr
  | [] => []
  | t :: ts => gsT t ++ gssT ts
end
def nameT : Tr → Str
  | .hand n => n
  | .grp n _ _ => n
def alikeG : Tr → Bool
  | .hand _ => true
  | .grp _ _ ms => alike ms
mutual
theorem level_gs : ∀ t : Tr, t.level = (gsT t).all alikeG
  | .hand _ => by simp [Tr.level, gsT]
  | .grp _ _ ms => by simp only [Tr.level, gsT, List.all_cons, alikeG, levels_gs ms]
theorem levels_gs : ∀ ts : List Tr, levels ts = (gssT ts).all alikeG
  | [] => by simp [levels, gssT]
  | t :: ts => by simp only [levels, gssT, List.all_append, level_gs t, levels_gs ts]
end
mutual
theorem gs_name : ∀ (t : Tr), ∀ u ∈ gsT t, nameT u ∈ t.gn
  | .hand _, u, h => by cases h
  | .grp n b ms, u, h => by
    simp only [gsT] at h
    simp only [Tr.gn]
    rcases List.mem_cons.mp h with rfl | h
    · exact List.mem_cons_self ..
    · exact List.mem_cons_of_mem _ (gss_name ms u h)
theorem gss_name : ∀ (ts : List Tr), ∀ u ∈ gssT ts, nameT u ∈ gns ts
  | [], u, h => by cases h
  | t :: ts, u, h => by
    simp only [gssT] at h
    simp only [gns]
    rcases List.mem_append.mp h with h | h
    · exact List.mem_append_left _ (gs_name t u h)
    · exact List.mem_append_right _ (gss_name ts u h)
end
mutual
theorem gs_fine : ∀ (t : Tr), t.ok → ∀ u ∈ gsT t, u.ok ∧ u.deep ≤ t.deep ∧ u.size ≤ t.size ∧ ∃ n b ms, u = .grp n b ms
  | .hand _, _, u, h => by cases h
  | .grp n b ms, ho, u, h => by
    simp only [gsT] at h
    rcases List.mem_cons.mp h with rfl | h
    · exact ⟨ho, Nat.le_refl _, Nat.le_refl _, _, _, _, rfl⟩
    · simp only [Tr.ok] at ho
      obtain ⟨a1, a2, a3, a4⟩ := gss_fine ms ho.2.2.2 u h
      simp only [Tr.deep, Tr.size]
      exact ⟨a1, by omega, by omega, a4⟩
theorem gss_fine : ∀ (ts : List Tr), oks ts → ∀ u ∈ gssT ts, u.ok ∧ u.deep ≤ deeps ts ∧ u.size ≤ sizes ts ∧ ∃ n b ms, u = .grp n b ms
  | [], _, u, h => by cases h
  | t :: ts, ho, u, h => by
    simp only [gssT] at h
    simp only [deeps, sizes]
    rcases List.mem_append.mp h with h | h
    · obtain ⟨a1, a2, a3, a4⟩ := gs_fine t ho.1 u h
      exact ⟨a1, by omega, by omega, a4⟩
    · obtain ⟨a1, a2, a3, a4⟩ := gss_fine ts ho.2 u h
      exact ⟨a1, by omega, by omega, a4⟩
end
mutual
theorem gs_len : ∀ t : Tr, (gsT t).length ≤ t.size
  | .hand _ => by simp [gsT]
  | .grp _ _ ms => by
    have := gss_len ms
    simp only [gsT, Tr.size, List.length_cons]
    omega
theorem gss_len : ∀ ts : List Tr, (gssT ts).length ≤ sizes ts
  | [] => by simp [gssT]
  | t :: ts => by
    have := gs_len t
    have := gss_len ts
    simp only [gssT, sizes, List.length_append]
    omega
end
theorem gss_take : ∀ {ts : List Tr} {i : Nat} {t : Tr}, ts[i]? = some t → gssT (ts.take (i + 1)) = gssT (ts.take i) ++ gsT t
  | u :: ts, 0, t, h => by
    cases h
    simp [gssT]
  | u :: ts, i + 1, t, h => by
    have := gss_take (ts := ts) (i := i) (t := t) (by simpa using h)
    simp only [List.take_succ_cons, gssT, this, List.append_assoc]
theorem hns_take : ∀ {ts : List Tr} {i : Nat} {t : Tr}, ts[i]? = some t → hns (ts.take (i + 1)) = hns (ts.take i) + t.hn
  | u :: ts, 0, t, h => by
    cases h
    simp [hns]
  | u :: ts, i + 1, t, h => by
    have := hns_take (ts := ts) (i := i) (t := t) (by simpa using h)
    simp only [List.take_succ_cons, hns, this]
    omega
mutual
theorem hn_size : ∀ t : Tr, t.hn ≤ t.size
  | .hand _ => by simp [Tr.hn, Tr.size]
  | .grp _ _ ms => by
    have := hns_size ms
    simp only [Tr.hn, Tr.size]
    omega
theorem hns_size : ∀ ts : List Tr, hns ts ≤ sizes ts
  | [] => Nat.le_refl _
  | t :: ts => by
    have := hn_size t
    have := hns_size ts
    simp only [hns, sizes]
    omega
end
theorem inner_filter {n : Str} {b : Int} {ms : List Tr} (h : n ∉ gns ms) : (gsT (.grp n b ms)).filter (fun t => decide (nameT t ≠ n)) = gssT ms := by
  simp only [gsT]
  rw [List.filter_cons, if_neg (by simp [nameT])]
  rw [List.filter_eq_self]
  intro u hu
  refine decide_eq_true fun z => h ?_
  rw [← z]
  exact gss_name ms u hu
def spLH (d : Nat) : Sp := fun vs H Q _ => ∃ (v : V) (n : Str) (b : Int) (ms : List Tr), vs = [v] ∧ TrV H v (.grp n b ms) ∧ (Tr.grp n b ms).deep ≤ d ∧ (Tr.grp n b ms).size ≤ 1000 ∧ ∀ r xs H', Ex H H' → H' r = some (.lst xs) → xs.length = hns ms → Q (.ref r) H'
def spLG (d : Nat) : Sp := fun vs H Q _ => ∃ (v : V) (n : Str) (b : Int) (ms : List Tr), vs = [v] ∧ TrV H v (.grp n b ms) ∧ (Tr.grp n b ms).deep ≤ d ∧ (Tr.grp n b ms).size ≤ 1000 ∧ ∀ r xs H', H r = none → Ex H H' → H' r = some (.lst xs) → TrVs H' xs (gsT (.grp n b ms)) → Q (.ref r) H'
def spLT (d : Nat) : Sp := fun vs H Q _ => ∃ (v : V) (t : Tr), vs = [v] ∧ TrV H v t ∧ t.ok ∧ t.deep ≤ d ∧ d ≤ 4 ∧ t.size ≤ 1000 ∧ ∀ H', Ex H H' → Q (.int t.turn) H'
def spLE : Sp := fun vs H Q _ => ∃ (v : V) (n : Str) (b : Int) (ms : List Tr), vs = [v] ∧ TrV H v (.grp n b ms) ∧ (Tr.grp n b ms).ok ∧ (Tr.grp n b ms).deep ≤ 4 ∧ (Tr.grp n b ms).size ≤ 1000 ∧ n ∉ gns ms ∧ ∀ H', Ex H H' → Q (.bl (levels ms)) H'
section
variable {P : Program} {w : World} {K : PySem.W.Frag} {mg : Str → Option Value} {base : Heap}
theorem lh_step (T : Tp w K mg) {d : Nat} {spR : Sp} (ih : FnOk P w K mg base CX0 d T.f__law_hands T.d__law_hands ["_law_plan_here"] spR) (hR : ∀ k, d = k + 1 → spR = spLH k) : FnOk P w K mg base CX0 (d + 1) T.f__law_hands T.d__law_hands ["_law_plan_here"] (spLH d) := by
  refine T.F__law_hands.ok sc__law_hands (fun vs H Q E h => ?_) (fun cdv A outer s H vs Q E hr h => ?_)
  · obtain ⟨v, n, b, ms, rfl, _⟩ := h
    rfl
  obtain ⟨v, n, b, ms, rfl, tv, hdp, hsz, q⟩ := h
  refine ⟨_, (pss_cons (ps_set (i := 1) sc__law_hands.nd rfl (Or.inl rfl) (pe_lst pa_nil))
  (pss_cons (ps_for PassesOwn.never rfl (piTK (K := K) rfl (pe_ix (ixTK (K := K) rfl) (pv 0) pe_int (fun _ _ => rfl))) (pg_name (i := 2) sc__law_hands.nd rfl (Or.inl rfl)) (pss_one (ps_set (i := 1) sc__law_hands.nd rfl (Or.inl rfl) (pe_op op_cat (pv 1) (pe_ifExp (pt_val (pe_callB (isiK (K := K) rfl) rfl T.z_isinstance (by decide +kernel) (pa_cons (pv 2) (pa_cons (pe_bltn (v := .ty "str") rfl T.z_str (by decide +kernel) rfl) pa_nil (star1 rfl)) (star1 rfl)) (by decide) (by decide) (star1 rfl) (starAll rfl))) (pe_lst (pa_cons (pv 2) pa_nil (star1 rfl))) (pe_call ih hr rfl T.m__law_hands T.F__law_hands.kp (b__law_hands T) .nil pass0 (pa_cons (pv 2) pa_nil (star1 rfl)) (by decide) (star1 rfl) (starAll rfl)))))))
  (pss_one (ps_ret (pv 1))))), ?_⟩
  cases tv with
  | @grp a m _ _ xs _ h1 h2 h3 =>
    obtain ⟨k, rfl⟩ : ∃ k, d = k + 1 := ⟨d - 1, by simp only [Tr.deep] at hdp; omega⟩
    have eR := hR k rfl
    subst eR
    have hsz2 : sizes ms ≤ 1000 := by simp only [Tr.size] at hsz; omega
    have hdp2 : deeps ms ≤ k := by simp only [Tr.deep] at hdp; omega
    refine q_asgL (xs := []) (fun H2 e2 Q' q' => ⟨(by show 0 ≤ sizeLine; decide), fun p hp => q' p _ hp (Ex.new hp) upd_same⟩) fun r0 H1 hr0 e1 h10 => ?_
    refine q_forT (K := K) (a := m) (xs := xs) (ev_ixT (ev_var rfl) ev_c (st_of (e1 _ _ h1)) rfl) (st_of (e1 _ _ h2)) (fun i σ' H' => Ex H H' ∧ ∃ r ys c, σ' = [some (.ref a), some (.ref r), c] ∧ H' r = some (.lst ys) ∧ ys.length = hns (ms.take i)) ?_ ?_ ?_ ?_
    · intro H2 e2
      exact ⟨e1.trans e2, r0, [], none, rfl, e2 _ _ h10, rfl⟩
    · intro i σ' H' _ hP
      exact st_of (hP.1 _ _ h2)
    · intro i x σ' H2 hx hP
      obtain ⟨e2, r, ys, c, rfl, hry, hyl⟩ := hP
      obtain ⟨t, ht, tv⟩ := trvs_get h3 hx
      have tv2 := trv_tk (TK.ex e2) t x tv
      have s1 := sizes_mem ht
      have s2 := deeps_mem ht
      have s3 := hn_size t
      have s4 : hns (ms.take i) ≤ 1000 := Nat.le_trans (hns_size _) (Nat.le_trans (sizes_take ms i) hsz2)
      refine s_asgP ?_
      refine ⟨_, rfl, ?_⟩
      refine (et_B (ev_isHand (ev_var rfl) tv2)) H2 (Ex.refl H2) _ fun H3 e3 => ?_
      refine ite2 (fun hb => ?_) (fun hb => ?_)
      · cases tv2 with
        | hand nm =>
          refine ⟨_, rfl, (by show 1 ≤ sizeLine; decide), fun p hp => ⟨r, p, ys, _, rfl, rfl, (Ex.new hp) _ _ (e3 _ _ hry), upd_same, sz_of (by simp; omega), fun r2 hr2 => ?_⟩⟩
          refine ⟨((e2.trans e3).trans (Ex.new hp)).trans (Ex.new hr2), r2, _, _, rfl, upd_same, ?_⟩
          rw [hns_take ht, List.length_append, hyl]
          simp [Tr.hn]
        | grp _ _ _ => cases hb
      · cases tv2 with
        | hand nm => exact absurd rfl hb
        | @grp a' m' n' b' xs' ms' g1 g2 g3 =>
          refine ⟨_, rfl, .ref a', n', b', ms', rfl, trv_tk (TK.ex e3) _ _ (.grp g1 g2 g3), by omega, by omega, fun r1 zs H4 e4 h4 hzl => ⟨r, r1, ys, zs, rfl, rfl, e4 _ _ (e3 _ _ hry), h4, ?_, fun r2 hr2 => ?_⟩⟩
          · simp only [Tr.hn] at s3
            exact sz_of (by omega)
          refine ⟨((e2.trans e3).trans e4).trans (Ex.new hr2), r2, _, _, rfl, upd_same, ?_⟩
          rw [hns_take ht, List.length_append, hyl, hzl]
          simp only [Tr.hn]
    · intro σ' H2 hP
      obtain ⟨e2, r, ys, c, rfl, hry, hyl⟩ := hP
      rw [trvs_len h3, List.take_length] at hyl
      exact s_ret (v := .ref r) (ev_var rfl) fun H3 e3 => q r ys H3 (e2.trans e3) (e3 _ _ hry) hyl
theorem lh_all (T : Tp w K mg) : ∀ d, FnOk P w K mg base CX0 (d + 1) T.f__law_hands T.d__law_hands ["_law_plan_here"] (spLH d)
  | 0 => lh_step T (spR := fun _ _ _ _ => False) ⟨fun _ _ _ _ h => h.elim, fun _ _ _ _ _ _ _ _ _ _ _ _ _ h => h.elim⟩ (fun k h => by cases h)
  | d + 1 => lh_step T (lh_all T d) (fun k h => by cases h; rfl)
theorem ok__law_hands (T : Tp w K mg) : FnOk P w K mg base CX0 5 T.f__law_hands T.d__law_hands ["_law_plan_here"] (spLH 4) := lh_all T 4
theorem lg_step (T : Tp w K mg) {d : Nat} {spR : Sp} (ih : FnOk P w K mg base CX0 d T.f__law_groups T.d__law_groups ["_law_plan_here"] spR) (hR : ∀ k, d = k + 1 → spR = spLG k) : FnOk P w K mg base CX0 (d + 1) T.f__law_groups T.d__law_groups ["_law_plan_here"] (spLG d) := by
  refine T.F__law_groups.ok sc__law_groups (fun vs H Q E h => ?_) (fun cdv A outer s H vs Q E hr h => ?_)
  · obtain ⟨v, n, b, ms, rfl, _⟩ := h
    rfl
  obtain ⟨v, n, b, ms, rfl, tv, hdp, hsz, q⟩ := h
  refine ⟨_, (pss_cons (ps_set (i := 1) sc__law_groups.nd rfl (Or.inl rfl) (pe_lst (pa_cons (pv 0) pa_nil (star1 rfl))))
  (pss_cons (ps_for PassesOwn.never rfl (piTK (K := K) rfl (pe_ix (ixTK (K := K) rfl) (pv 0) pe_int (fun _ _ => rfl))) (pg_name (i := 2) sc__law_groups.nd rfl (Or.inl rfl)) (pss_one (ps_if (pt_not (pt_val (pe_callB (isiK (K := K) rfl) rfl T.z_isinstance (by decide +kernel) (pa_cons (pv 2) (pa_cons (pe_bltn (v := .ty "str") rfl T.z_str (by decide +kernel) rfl) pa_nil (star1 rfl)) (star1 rfl)) (by decide) (by decide) (star1 rfl) (starAll rfl)))) (pss_one (ps_set (i := 1) sc__law_groups.nd rfl (Or.inl rfl) (pe_op op_cat (pv 1) (pe_call ih hr rfl T.m__law_groups T.F__law_groups.kp (b__law_groups T) .nil pass0 (pa_cons (pv 2) pa_nil (star1 rfl)) (by decide) (star1 rfl) (starAll rfl))))) pss_nil)))
  (pss_one (ps_ret (pv 1))))), ?_⟩
  have tv0 := tv
  cases tv with
  | @grp a m _ _ xs _ h1 h2 h3 =>
    obtain ⟨k, rfl⟩ : ∃ k, d = k + 1 := ⟨d - 1, by simp only [Tr.deep] at hdp; omega⟩
    have eR := hR k rfl
    subst eR
    have hsz2 : sizes ms ≤ 1000 := by simp only [Tr.size] at hsz; omega
    have hdp2 : deeps ms ≤ k := by simp only [Tr.deep] at hdp; omega
    refine q_asgL (xs := [.ref a]) (fun H2 e2 Q' q' => ⟨_, rfl, (by show 1 ≤ sizeLine; decide), fun p hp => q' p _ hp (Ex.new hp) upd_same⟩) fun r0 H1 hr0 e1 h10 => ?_
    refine q_forT (K := K) (a := m) (xs := xs) (ev_ixT (ev_var rfl) ev_c (st_of (e1 _ _ h1)) rfl) (st_of (e1 _ _ h2)) (fun i σ' H' => Ex H H' ∧ ∃ r ys c, σ' = [some (.ref a), some (.ref r), c] ∧ H r = none ∧ H' r = some (.lst ys) ∧ TrVs H' ys (.grp n b ms :: gssT (ms.take i))) ?_ ?_ ?_ ?_
    · intro H2 e2
      exact ⟨e1.trans e2, r0, [.ref a], none, rfl, hr0, e2 _ _ h10, .cons (trv_tk (TK.ex (e1.trans e2)) _ _ tv0) .nil⟩
    · intro i σ' H' _ hP
      exact st_of (hP.1 _ _ h2)
    · intro i x σ' H2 hx hP
      obtain ⟨e2, r, ys, c, rfl, hr0, hry, tvs⟩ := hP
      obtain ⟨t, ht, tv⟩ := trvs_get h3 hx
      have tv2 := trv_tk (TK.ex e2) t x tv
      have s1 := sizes_mem ht
      have s2 := deeps_mem ht
      have s3 := gs_len t
      have s4 : (gssT (ms.take i)).length ≤ 1000 := Nat.le_trans (gss_len _) (Nat.le_trans (sizes_take ms i) hsz2)
      have s5 := trvs_len tvs
      rw [List.length_cons] at s5
      refine s_when (et_not (et_B (ev_isHand (ev_var rfl) tv2))) (fun hb H3 e3 => ?_) (fun hb H3 e3 => ?_)
      · cases tv2 with
        | hand nm => cases hb
        | @grp a' m' n' b' xs' ms' g1 g2 g3 =>
          refine s_asgP ?_
          refine ⟨_, rfl, _, rfl, .ref a', n', b', ms', rfl, trv_tk (TK.ex e3) _ _ (.grp g1 g2 g3), by omega, by omega, fun r1 zs H4 hr1 e4 h4 tvz => ⟨r, r1, ys, zs, rfl, rfl, e4 _ _ (e3 _ _ hry), h4, sz_of (by have := trvs_len tvz; omega), fun r2 hr2 => ?_⟩⟩
          refine ⟨((e2.trans e3).trans e4).trans (Ex.new hr2), r2, _, _, rfl, fresh_back ((e2.trans e3).trans e4) hr2, upd_same, ?_⟩
          rw [gss_take ht]
          exact trvs_tk (TK.new hr2) _ _ (trvs_app (ts := .grp n b ms :: gssT (ms.take i)) (trvs_tk (TK.ex (e3.trans e4)) _ _ tvs) tvz)
      · cases tv2 with
        | hand nm =>
          refine ⟨e2.trans e3, r, ys, _, rfl, hr0, e3 _ _ hry, ?_⟩
          rw [gss_take ht]
          simp only [gsT, List.append_nil]
          exact trvs_tk (TK.ex e3) _ _ tvs
        | grp _ _ _ => cases hb
    · intro σ' H2 hP
      obtain ⟨e2, r, ys, c, rfl, hr0, hry, tvs⟩ := hP
      rw [trvs_len h3, List.take_length] at tvs
      exact s_ret (v := .ref r) (ev_var rfl) fun H3 e3 => q r ys H3 hr0 (e2.trans e3) (e3 _ _ hry) (by
        simp only [gsT]
        exact trvs_tk (TK.ex e3) _ _ tvs)
theorem lg_all (T : Tp w K mg) : ∀ d, FnOk P w K mg base CX0 (d + 1) T.f__law_groups T.d__law_groups ["_law_plan_here"] (spLG d)
  | 0 => lg_step T (spR := fun _ _ _ _ => False) ⟨fun _ _ _ _ h => h.elim, fun _ _ _ _ _ _ _ _ _ _ _ _ _ h => h.elim⟩ (fun k h => by cases h)
  | d + 1 => lg_step T (lg_all T d) (fun k h => by cases h; rfl)
theorem ok__law_groups (T : Tp w K mg) : FnOk P w K mg base CX0 5 T.f__law_groups T.d__law_groups ["_law_plan_here"] (spLG 4) := lg_all T 4
theorem lt_step (T : Tp w K mg) {d : Nat} {spR : Sp} (ih : FnOk P w K mg base CX0 (d + 5) T.f__law_turn T.d__law_turn ["_law_member"] spR) (hR : ∀ k, d = k + 1 → spR = spLT k) : FnOk P w K mg base CX0 (d + 6) T.f__law_turn T.d__law_turn ["_law_member"] (spLT d) := by
  refine T.F__law_turn.ok sc__law_turn (fun vs H Q E h => ?_) (fun cdv A outer s H vs Q E hr h => ?_)
  · obtain ⟨v, t, rfl, _⟩ := h
    rfl
  obtain ⟨v, t, rfl, tv, hok, hdp, hd, hsz, q⟩ := h
  refine ⟨_, (pss_cons (ps_if (PW.pt (pw_or (pt_val (pe_callB (isiK (K := K) rfl) rfl T.z_isinstance (by decide +kernel) (pa_cons (pv 0) (pa_cons (pe_bltn (v := .ty "str") rfl T.z_str (by decide +kernel) rfl) pa_nil (star1 rfl)) (star1 rfl)) (by decide) (by decide) (star1 rfl) (starAll rfl))) (pw_or1 (pt_cmpR op_eq (pe_callB (lenK (K := K) rfl) rfl T.z_len PySem.boot_len (pa_cons (pe_call (ok__law_hands T) (hr.mono (by omega)) rfl T.m__law_hands T.F__law_hands.kp (b__law_hands T) .nil pass0 (pa_cons (pv 0) pa_nil (star1 rfl)) (by decide) (star1 rfl) (starAll rfl)) pa_nil (star1 rfl)) (by decide) (by decide) (star1 rfl) (starAll rfl)) pe_int (nomark _))))) (pss_one (ps_ret pe_int)) pss_nil)
  (pss_one (ps_ret (pe_op op_mul (pe_ix (ixTK (K := K) rfl) (pv 0) pe_int (fun _ _ => rfl)) (pe_callB (maxK (K := K) rfl rfl) rfl T.z_max (by decide +kernel) (pa_cons (pe_lc (own := [("_law_inner", 1)]) (g := gName 1) (tt := tYes) rfl sc__law_turn.nd (piTK (K := K) rfl (pe_ix (ixTK (K := K) rfl) (pv 0) pe_int (fun _ _ => rfl))) (blkOk_by (N := N__law_turn) (sc := defScope s__law_turn) (by decide +kernel)) (fun _ _ _ _ _ => (pg_name (i := 1) sc__law_turn.nd rfl (Or.inl rfl))) (fun _ _ _ _ _ => pts_nil) (fun _ _ _ _ _ => (pe_call ih hr rfl T.m__law_turn T.F__law_turn.kp (b__law_turn T) .nil pass0 (pa_cons (pv 1) pa_nil (star1 rfl)) (by decide) (star1 rfl) (starAll rfl)))) pa_nil (star1 rfl)) (by decide) (by decide) (star1 rfl) (starAll rfl)))))), ?_⟩
  have t1 : EvT (tB (tCB (rIsi K) (tCons (tVar 0) (tCons (tC (.ty "str")) tNil)))) (start N__law_turn [v]) H t.isHand := et_B (ev_isHand (ev_var rfl) tv)
  cases tv with
  | hand n =>
    refine q_when (b := true) (et_is (et_or (b := false) t1 fun h => by cases h) rfl) (fun _ H1 e1 => s_ret ev_c fun H2 e2 => q H2 (e1.trans e2)) (fun h => by cases h)
  | @grp a m n b xs ms h1 h2 h3 =>
    have tv : TrV H (.ref a) (.grp n b ms) := .grp h1 h2 h3
    obtain ⟨k, rfl⟩ : ∃ k, d = k + 1 := ⟨d - 1, by simp only [Tr.deep] at hdp; omega⟩
    have eR := hR k rfl
    subst eR
    have hlen : Ev (tCB (rLenS K) (tCons (tCall (spLH 4) [] E0 (tCons (tVar 0) tNil)) tNil)) (start N__law_turn [.ref a]) H (.int (hns ms : Int)) := by
      intro H1 e1 Q' q'
      refine ⟨_, rfl, .ref a, n, b, ms, rfl, trv_tk (TK.ex e1) _ _ tv, by omega, hsz, fun r ys H2 e2 hr hl => ⟨r, ys, rfl, Or.inl (sq_of hr), ?_⟩⟩
      rw [hl]
      exact q' H2 e2
    refine q_when (b := decide (hns ms = 1)) (et_is (et_or (a := false) t1 fun _ => et_test (ev_eq hlen ev_c rfl)) ?_) (fun hb H1 e1 => ?_) (fun hb H1 e1 => ?_)
    · rw [Bool.false_or]
      refine decide_eq_decide.mpr ⟨fun z => ?_, fun z => by rw [z]; rfl⟩
      injection z with z
      omega
    · have hb := of_decide_eq_true hb
      refine s_ret ev_c fun H2 e2 => ?_
      have q2 := q H2 (e1.trans e2)
      simp only [Tr.turn] at q2
      rw [if_pos hb] at q2
      exact q2
    · have hb := of_decide_eq_false hb
      simp only [Tr.ok] at hok
      have hl := trvs_len h3
      have hsz2 : sizes ms ≤ 1000 := by simp only [Tr.size] at hsz; omega
      have hls := len_sizes ms
      have hdp2 : deeps ms ≤ k := by simp only [Tr.deep] at hdp; omega
      refine s_ret (ev_is (ev_I (C := CMul) (g := fun i j => .int (i * j)) (i := b) (j := maxs ms) (Or.inl ⟨by omega, by omega⟩) (ev_ixT (v := .int b) (ev_var rfl) ev_c (st_of (e1 _ _ h1)) rfl) (ev_maxN (ns := ms.map Tr.turn) ?_ (max_in hok.2.2.2 hok.2.2.1) max_le)) (w := .int (Tr.grp n b ms).turn) ?_) fun H2 e2 => q H2 (e1.trans e2)
      · have c := el_lcT (K := K) (σ := start N__law_turn [.ref a]) (H := H1) (a := m) (xs := xs) (tl := tOp (rIxT K) (tVar 0) (tC (.int 2))) (tt := tYes) (te := tCall (spLT k) [] E0 (tCons (tVar 1) tNil)) (j := 1) (vs := [1]) (fun _ => true) (fun i => .int (ms.getD i (.hand "")).turn) (ev_ixT (ev_var rfl) ev_c (st_of (e1 _ _ h1)) rfl) (st_of (e1 _ _ h2)) (by omega) (fun x => rfl) (fun i x H1 e1 hx => et_yes) (fun i x H2 e2 hx _ => ?_)
        · rw [given_all, hl] at c
          have e : (List.range ms.length).map (fun i => V.int (ms.getD i (.hand "")).turn) = (ms.map Tr.turn).map V.int := by
            rw [map_range (fun t => V.int t.turn), List.map_map]
            rfl
          rw [e] at c
          exact c
        · obtain ⟨u, hu, tu⟩ := trvs_get h3 hx
          have : ms.getD i (.hand "") = u := by simp [List.getD_eq_getElem?_getD, hu]
          rw [this]
          have s1 := sizes_mem hu
          have s2 := deeps_mem hu
          exact ev_call (ea_cons (ev_var rfl) ea_nil) fun H3 e3 Q' q' E' => ⟨x, u, rfl, trv_tk (TK.ex ((e1.trans e2).trans e3)) _ _ tu, oks_get hok.2.2.2 hu, by omega, by omega, by omega, q'⟩
      · simp only [Tr.turn]
        rw [if_neg hb]
theorem lt_all (T : Tp w K mg) : ∀ d, FnOk P w K mg base CX0 (d + 6) T.f__law_turn T.d__law_turn ["_law_member"] (spLT d)
  | 0 => lt_step T (spR := fun _ _ _ _ => False) ⟨fun _ _ _ _ h => h.elim, fun _ _ _ _ _ _ _ _ _ _ _ _ _ h => h.elim⟩ (fun k h => by cases h)
  | d + 1 => lt_step T (lt_all T d) (fun k h => by cases h; rfl)
theorem ok__law_turn (T : Tp w K mg) : FnOk P w K mg base CX0 10 T.f__law_turn T.d__law_turn ["_law_member"] (spLT 4) := lt_all T 4
/-- how many there are in a set of turns -/
theorem ev_lenSet {σ : L2.St} {H : Hp} {ta : TE} {ms : List Tr} (h : EvL ta σ H ((ms.map Tr.turn).map V.int)) (hn : ms ≠ []) (hl : ms.length ≤ 4000) : Ev (tOp rEq (tCB (rLenI P w) (tCons (tCB (rSetI P w K) (tCons ta tNil)) tNil)) (tC (.int 1))) σ H (.bl (alike ms)) := fun H1 e Q q =>
  h H1 e _ fun p H2 hp e2 h2 => ⟨p, ms.map Tr.turn, rfl, sq_of h2, by rw [List.length_map]; exact hl, fun s hs => ⟨s, ms.map Tr.turn, rfl, upd_same, by rw [List.length_map]; exact hl, fun n cn => ⟨rfl, by
    have e : decide (V.int (n : Int) = V.int 1) = alike ms := by
      unfold alike
      refine decide_eq_decide.mpr ⟨fun z => ?_, fun z => ?_⟩
      · injection z with z
        exact cn.2.1.mp (by omega)
      · have h1 := cn.2.1.mpr z
        have h0 : n ≠ 0 := fun y => by
          have := cn.1.mp y
          simp at this
          exact hn this
        have : n = 1 := by omega
        rw [this]
        rfl
    rw [e]
    exact q _ (e2.trans (Ex.new hs))⟩⟩⟩
theorem ok__law_is_even (T : Tp w K mg) : FnOk P w K mg base CX0 11 T.f__law_is_even T.d__law_is_even ["_law_plan_here"] spLE := by
  refine T.F__law_is_even.ok sc__law_is_even (fun vs H Q E h => ?_) (fun cdv A outer s H vs Q E hr h => ?_)
  · obtain ⟨v, n, b, ms, rfl, _⟩ := h
    rfl
  obtain ⟨v, n, b, ms, rfl, tv, hok, hdp, hsz, hun, q⟩ := h
  refine ⟨_, (pss_cons (ps_setLc (i := 1) (own := [("_law_group", 2)]) (g := gName 2) rfl sc__law_is_even.nd rfl rfl (sw_true rfl rfl rfl (by decide +kernel)) (plLK (K := K) rfl (pe_call (ok__law_groups T) (hr.mono (by decide)) rfl T.m__law_groups T.F__law_groups.kp (b__law_groups T) .nil pass0 (pa_cons (pv 0) pa_nil (star1 rfl)) (by decide) (star1 rfl) (starAll rfl))) (blkOk_by (N := N__law_is_even) (sc := defScope s__law_is_even) (by decide +kernel)) (fun _ _ _ _ _ => (pg_name (i := 2) sc__law_is_even.nd rfl (Or.inl rfl))) (fun _ _ _ _ _ => (pts_one (pt_cmpR op_ne (pe_ix (ixTK (K := K) rfl) (pv 2) pe_int (fun _ _ => rfl)) (pe_ix (ixTK (K := K) rfl) (pv 0) pe_int (fun _ _ => rfl)) (nomark _)))) (fun _ _ _ _ _ => (pv 2)))
  (pss_one (ps_ret (pe_callB (allK (K := K) rfl rfl) rfl T.z_all (by decide +kernel) (pa_cons (pe_lc (own := [("_law_group", 2)]) (g := gName 2) (tt := tYes) rfl sc__law_is_even.nd (plLK (K := K) rfl (pv 1)) (blkOk_by (N := N__law_is_even) (sc := defScope s__law_is_even) (by decide +kernel)) (fun _ _ _ _ _ => (pg_name (i := 2) sc__law_is_even.nd rfl (Or.inl rfl))) (fun _ _ _ _ _ => pts_nil) (fun _ _ _ _ _ => (pe_cmpR op_eq (pe_callB (lenIK (P := P) (w := w) rfl rfl) rfl T.z_len PySem.boot_len (pa_cons (pe_callTy (setIK (K := K) (P := P) (w := w) rfl rfl rfl rfl) rfl T.z_set (by decide +kernel) (pa_cons (pe_lc (own := [("_law_member", 3)]) (g := gName 3) (tt := tYes) rfl sc__law_is_even.nd (piTK (K := K) rfl (pe_ix (ixTK (K := K) rfl) (pv 2) pe_int (fun _ _ => rfl))) (blkOk_by (N := N__law_is_even) (by rfl)) (fun _ _ _ _ _ => (pg_name (i := 3) sc__law_is_even.nd rfl (Or.inl rfl))) (fun _ _ _ _ _ => pts_nil) (fun _ _ _ _ _ => (pe_call (ok__law_turn T) (hr.mono (by decide)) rfl T.m__law_turn T.F__law_turn.kp (b__law_turn T) .nil pass0 (pa_cons (pv 3) pa_nil (star1 rfl)) (by decide) (star1 rfl) (starAll rfl)))) pa_nil (star1 rfl)) (by decide) (by decide) (star1 rfl) (starAll rfl)) pa_nil (star1 rfl)) (by decide) (by decide) (star1 rfl) (starAll rfl)) pe_int (nomark _)))) pa_nil (star1 rfl)) (by decide) (by decide) (star1 rfl) (starAll rfl))))), ?_⟩
  have tv0 := tv
  cases tv with
  | @grp a m _ _ xs _ h1 h2 h3 =>
    refine q_asgP ?_
    refine ⟨_, rfl, .ref a, n, b, ms, rfl, tv0, hdp, hsz, fun r gs H1 hr1 e1 h1r tvs => ⟨r, rfl, ⟨gs, sq_of h1r⟩, fun D hD => ?_⟩⟩
    have gl := gs_len (.grp n b ms)
    have gl2 := trvs_len tvs
    refine lc_list (K := K) (a := r) (xs := gs) (fun i H' => Ex H1 H' ∧ ∃ ys, H' D = some (.lst ys) ∧ TrVs H1 ys (((gsT (.grp n b ms)).take i).filter fun t => decide (nameT t ≠ n))) ⟨Ex.new hD, [], upd_same, .nil⟩ (fun i H' _ hP => sq_of (hP.1 _ _ h1r)) ?_ ?_
    · intro i x H2 hx hP
      obtain ⟨e2, ys, hacc, tys⟩ := hP
      obtain ⟨u, hu, tu⟩ := trvs_get tvs hx
      obtain ⟨_, _, _, n', b', ms', rfl⟩ := gs_fine _ hok u (List.mem_of_getElem? hu)
      cases tu with
      | @grp a' m' _ _ xs' _ g1 g2 g3 =>
        refine ⟨rfl, ?_⟩
        have tt : EvT (tTest (tOp rNe (tOp (rIxT K) (tVar 2) (tC (.int 0))) (tOp (rIxT K) (tVar 0) (tC (.int 0))))) [some (.ref a), none, some (.ref a'), none] H2 (!decide (V.str n' = V.str n)) := et_test (ev_ne (ev_ixT (v := .str n') (ev_var rfl) ev_c (st_of (e2 _ _ g1)) rfl) (ev_ixT (v := .str n) (ev_var rfl) ev_c (st_of ((e1.trans e2) _ _ h1)) rfl) rfl)
        refine tt H2 (Ex.refl H2) _ fun H3 e3 => ?_
        have ft : (gsT (.grp n b ms)).take (i + 1) = (gsT (.grp n b ms)).take i ++ [.grp n' b' ms'] := by
          obtain ⟨hi, hh⟩ := List.getElem?_eq_some_iff.mp hu
          rw [List.take_succ_eq_append_getElem hi, hh]
        have yl := trvs_len tys
        have yl2 := List.length_filter_le (fun t => decide (nameT t ≠ n)) ((gsT (.grp n b ms)).take i)
        have yl3 : ((gsT (.grp n b ms)).take i).length ≤ 1000 := by rw [List.length_take]; omega
        refine ite2 (fun hb => ?_) (fun hb => ?_)
        · have hne : n' ≠ n := by simpa using hb
          refine ⟨_, rfl, ys, e3 _ _ hacc, sz_lt (by omega), Ex.mut (e2.trans e3) hD, ys ++ [.ref a'], upd_same, ?_⟩
          rw [ft, List.filter_append]
          refine trvs_app tys ?_
          have : ([Tr.grp n' b' ms'].filter fun t => decide (nameT t ≠ n)) = [.grp n' b' ms'] := by simp [nameT, hne]
          rw [this]
          exact .cons (.grp g1 g2 g3) .nil
        · have hne : n' = n := by simpa using hb
          refine ⟨e2.trans e3, ys, e3 _ _ hacc, ?_⟩
          rw [ft, List.filter_append]
          have : ([Tr.grp n' b' ms'].filter fun t => decide (nameT t ≠ n)) = [] := by simp [nameT, hne]
          rw [this, List.append_nil]
          exact tys
    intro H2 hP
    obtain ⟨e2, ys, hacc, tys⟩ := hP
    rw [gl2, List.take_length, inner_filter hun] at tys
    have yl := trvs_len tys
    have yl2 := gss_len ms
    have hsz2 : sizes ms ≤ 1000 := by simp only [Tr.size] at hsz; omega
    simp only [Tr.ok] at hok
    refine s_ret (ev_is (ev_allN (bs := (gssT ms).map alikeG) ?_) (w := .bl (levels ms)) ?_) fun H3 e3 => q H3 ((e1.trans e2).trans e3)
    · have c := el_lcL (K := K) (σ := [some (.ref a), some (.ref D), none, none]) (H := H2) (a := D) (xs := ys) (tl := tVar 1) (t := tYes) (te := tOp rEq (tCB (rLenI P w) (tCons (tCB (rSetI P w K) (tCons (tLc (iTup K (tOp (rIxT K) (tVar 2) (tC (.int 2)))) (gName 3) tYes (tCall (spLT 4) [] E0 (tCons (tVar 3) tNil)) [3]) tNil)) tNil)) (tC (.int 1))) (j := 2) (vs := [2]) (fun _ => true) (fun i => .bl (alikeG ((gssT ms).getD i (.hand "")))) (ev_var rfl) (sq_of hacc) (by omega) (fun x => rfl) (fun i x H3 e3 hx => et_yes) (fun i x H3 e3 hx _ => ?_)
      · rw [given_all, yl] at c
        have e : (List.range (gssT ms).length).map (fun i => V.bl (alikeG ((gssT ms).getD i (.hand "")))) = ((gssT ms).map alikeG).map V.bl := by
          rw [map_range (fun t => V.bl (alikeG t)), List.map_map]
          rfl
        rw [e] at c
        exact c
      · obtain ⟨u, hu, tu⟩ := trvs_get tys hx
        have hgu : (gssT ms).getD i (.hand "") = u := by simp [List.getD_eq_getElem?_getD, hu]
        rw [hgu]
        obtain ⟨uok, udp, usz, n', b', ms', rfl⟩ := gss_fine ms hok.2.2.2 u (List.mem_of_getElem? hu)
        have tu0 := tu
        cases tu with
        | @grp a' m' _ _ xs' _ g1 g2 g3 =>
          simp only [Tr.ok] at uok
          simp only [Tr.deep] at udp hdp
          simp only [Tr.size] at usz
          have hl' := trvs_len g3
          have hls' := len_sizes ms'
          have e23 := e2.trans e3
          refine ev_lenSet (K := K) ?_ uok.2.2.1 (by omega)
          have c := el_lcT (K := K) (σ := [some (.ref a), some (.ref D), some (.ref a'), none]) (H := H3) (a := m') (xs := xs') (tl := tOp (rIxT K) (tVar 2) (tC (.int 2))) (tt := tYes) (te := tCall (spLT 4) [] E0 (tCons (tVar 3) tNil)) (j := 3) (vs := [3]) (fun _ => true) (fun i => .int (ms'.getD i (.hand "")).turn) (ev_ixT (ev_var rfl) ev_c (st_of (e23 _ _ g1)) rfl) (st_of (e23 _ _ g2)) (by omega) (fun x => rfl) (fun i x H1 e1 hx => et_yes) (fun i x H4 e4 hx _ => ?_)
          · rw [given_all, hl'] at c
            have e : (List.range ms'.length).map (fun i => V.int (ms'.getD i (.hand "")).turn) = (ms'.map Tr.turn).map V.int := by
              rw [map_range (fun t => V.int t.turn), List.map_map]
              rfl
            rw [e] at c
            exact c
          · obtain ⟨u, hu, tu⟩ := trvs_get g3 hx
            have : ms'.getD i (.hand "") = u := by simp [List.getD_eq_getElem?_getD, hu]
            rw [this]
            have s1 := sizes_mem hu
            have s2 := deeps_mem hu
            exact ev_call (ea_cons (ev_var rfl) ea_nil) fun H5 e5 Q' q' E' => ⟨x, u, rfl, trv_tk (TK.ex ((e23.trans e4).trans e5)) _ _ tu, oks_get uok.2.2.2 hu, by omega, by decide, by omega, q'⟩
    · rw [levels_gs, List.all_map]
      rfl
end

/-! ### a plan otherwise -/
mutual
def bentT (o : Str) (wy bd : Int) (z : Str) : Tr → Tr
  | .hand n => .hand n
  | .grp n b ms => .grp n (if n = o ∧ wy = 0 then bd else b) (bentTs o wy bd z ms ++ (if n = o ∧ wy = 1 then [.hand z] else []))
def bentTs (o : Str) (wy bd : Int) (z : Str) : List Tr → List Tr
  | [] => []
  | t :: ts => bentT o wy bd z t :: bentTs o wy bd z ts
end
theorem bents_take {o : Str} {wy bd : Int} {z : Str} : ∀ {ts : List Tr} {i : Nat} {t : Tr}, ts[i]? = some t → bentTs o wy bd z (ts.take (i + 1)) = bentTs o wy bd z (ts.take i) ++ [bentT o wy bd z t]
  | u :: ts, 0, t, h => by
    cases h
    simp [bentTs]
  | u :: ts, i + 1, t, h => by
    have := bents_take (o := o) (wy := wy) (bd := bd) (z := z) (ts := ts) (i := i) (t := t) (by simpa using h)
    simp only [List.take_succ_cons, bentTs, this, List.cons_append]
theorem bents_len {o : Str} {wy bd : Int} {z : Str} : ∀ ts : List Tr, (bentTs o wy bd z ts).length = ts.length
  | [] => rfl
  | t :: ts => by simp only [bentTs, List.length_cons, bents_len ts]
theorem gns_app : ∀ (a c : List Tr), gns (a ++ c) = gns a ++ gns c
  | [], c => by simp [gns]
  | t :: a, c => by simp only [List.cons_append, gns, gns_app a c, List.append_assoc]
theorem deeps_app2 : ∀ (a c : List Tr), deeps (a ++ c) = max (deeps a) (deeps c)
  | [], c => by simp [deeps]
  | t :: a, c => by simp only [List.cons_append, deeps, deeps_app2 a c]; omega
theorem nmss_app2 : ∀ (a c : List Tr), nmss (a ++ c) = nmss a ++ nmss c
  | [], c => by simp [nmss]
  | t :: a, c => by simp only [List.cons_append, nmss, nmss_app2 a c, List.append_assoc]
section
variable {o z : Str} {wy bd : Int}
mutual
theorem bent_facts (hz : nameOk z) (h1 : 1 ≤ bd) (h2 : bd ≤ 99999999) : ∀ t : Tr, t.ok → (∀ x ∈ t.nms, nameOk x) → (bentT o wy bd z t).ok ∧ (bentT o wy bd z t).deep = t.deep ∧ (bentT o wy bd z t).size ≤ 2 * t.size ∧ (∀ x ∈ (bentT o wy bd z t).nms, nameOk x) ∧ (bentT o wy bd z t).gn = t.gn
  | .hand n, _, hn => by
    unfold bentT
    exact ⟨trivial, rfl, by omega, hn, rfl⟩
  | .grp n b ms, ho, hn => by
    simp only [Tr.ok] at ho
    have hn2 : ∀ x ∈ nmss ms, nameOk x := fun x hx => hn x (by simp only [Tr.nms]; exact List.mem_cons_of_mem _ hx)
    obtain ⟨a1, a2, a3, a4, a5⟩ := bents_facts hz h1 h2 ms ho.2.2.2 hn2
    have hnn : nameOk n := hn n (by simp only [Tr.nms]; exact List.mem_cons_self ..)
    have hne : bentTs o wy bd z ms ≠ [] := fun y => by
      have := congrArg List.length y
      rw [bents_len] at this
      exact ho.2.2.1 (List.length_eq_zero_iff.mp this)
    simp only [bentT, Tr.ok, Tr.deep, Tr.size, Tr.nms, Tr.gn]
    refine ⟨⟨?_, ?_, ?_, ?_⟩, ?_, ?_, ?_, ?_⟩
    · split <;> omega
    · split <;> omega
    · intro y
      exact hne (List.append_eq_nil_iff.mp y).1
    · refine oks_app a1 ?_
      split
      · exact ⟨trivial, trivial⟩
      · trivial
    · rw [deeps_app2, a2]
      split
      · simp only [deeps, Tr.deep]
        omega
      · simp only [deeps]
        omega
    · rw [sizes_app]
      split
      · simp only [sizes, Tr.size]
        omega
      · simp only [sizes]
        omega
    · intro x hx
      rcases List.mem_cons.mp hx with rfl | hx
      · exact hnn
      · rw [nmss_app2] at hx
        rcases List.mem_append.mp hx with hx | hx
        · exact a4 x hx
        · split at hx
          · simp only [nmss, Tr.nms, List.append_nil] at hx
            rw [List.mem_singleton.mp hx]
            exact hz
          · cases hx
    · rw [gns_app, a5]
      split
      · simp [gns, Tr.gn]
      · simp [gns]
theorem bents_facts (hz : nameOk z) (h1 : 1 ≤ bd) (h2 : bd ≤ 99999999) : ∀ ts : List Tr, oks ts → (∀ x ∈ nmss ts, nameOk x) → oks (bentTs o wy bd z ts) ∧ deeps (bentTs o wy bd z ts) = deeps ts ∧ sizes (bentTs o wy bd z ts) ≤ 2 * sizes ts ∧ (∀ x ∈ nmss (bentTs o wy bd z ts), nameOk x) ∧ gns (bentTs o wy bd z ts) = gns ts
  | [], _, _ => by
    unfold bentTs
    exact ⟨trivial, rfl, by simp [sizes], (fun x hx => by cases hx), rfl⟩
  | t :: ts, ho, hn => by
    obtain ⟨a1, a2, a3, a4, a5⟩ := bent_facts hz h1 h2 t ho.1 fun x hx => hn x (by simp only [nmss]; exact List.mem_append_left _ hx)
    obtain ⟨b1, b2, b3, b4, b5⟩ := bents_facts hz h1 h2 ts ho.2 fun x hx => hn x (by simp only [nmss]; exact List.mem_append_right _ hx)
    simp only [bentTs, deeps, sizes, gns]
    refine ⟨⟨a1, b1⟩, by rw [a2, b2], by omega, fun x hx => ?_, by rw [a5, b5]⟩
    simp only [nmss] at hx
    rcases List.mem_append.mp hx with hx | hx
    · exact a4 x hx
    · exact b4 x hx
end
end
def spBent (d : Nat) : Sp := fun vs H Q _ => ∃ (v : V) (n o z : Str) (b wy bd : Int) (ms : List Tr), vs = [v, .str o, .int wy, .int bd, .str z] ∧ TrV H v (.grp n b ms) ∧ (Tr.grp n b ms).deep ≤ d ∧ (Tr.grp n b ms).size ≤ 1000 ∧ ∀ v' H', Ex H H' → TrV H' v' (bentT o wy bd z (.grp n b ms)) → Q v' H'
/-- what such plans are, one more time -/
structure PH (n : Str) (d : Int) (ms : List Tr) : Prop where
  ok : (Tr.grp n d ms).ok
  dp : (Tr.grp n d ms).deep ≤ 3
  nm : ∀ x ∈ (Tr.grp n d ms).nms, nameOk x
  sz : (Tr.grp n d ms).size ≤ 60
  un : n ∉ gns ms
theorem PG.ph {n : Str} {d : Int} {ms : List Tr} (g : PG n d ms) : PH n d ms := ⟨g.ok, g.dp, g.nm, Nat.le_trans g.sz (by decide), g.un⟩
def spOther : Sp := fun vs H Q _ => ∃ (h : Addr) (v : V) (z n : Str) (d : Int) (ms : List Tr) (C : Nat), vs = [.ref h, v, .str z] ∧ Bx H h C ∧ C ≤ 100000 ∧ TrV H v (.grp n d ms) ∧ PG n d ms ∧ nameOk z ∧ ∀ v' n' d' ms' H', Bx H' h (C + 3) → Kp h h H H' → TrV H' v' (.grp n' d' ms') → PH n' d' ms' → Q v' H'
section
variable {P : Program} {w : World} {K : PySem.W.Frag} {mg : Str → Option Value} {base : Heap}
theorem be_step (T : Tp w K mg) {d : Nat} {spR : Sp} (ih : FnOk P w K mg base CX0 d T.f__law_bent T.d__law_bent ["_law_plan_here", "_law_name_here", "_law_way", "_law_bound", "_law_box"] spR) (hR : ∀ k, d = k + 1 → spR = spBent k) : FnOk P w K mg base CX0 (d + 1) T.f__law_bent T.d__law_bent ["_law_plan_here", "_law_name_here", "_law_way", "_law_bound", "_law_box"] (spBent d) := by
  refine T.F__law_bent.ok sc__law_bent (fun vs H Q E h => ?_) (fun cdv A outer s H vs Q E hr h => ?_)
  · obtain ⟨v, n, o, z, b, wy, bd, ms, rfl, _⟩ := h
    rfl
  obtain ⟨v, n, o, z, b, wy, bd, ms, rfl, tv, hdp, hsz, q⟩ := h
  refine ⟨_, (pss_cons (ps_setLc (i := 5) (own := [("_law_member", 6)]) (g := gName 6) (tt := tYes) rfl sc__law_bent.nd rfl rfl (sw_true rfl rfl rfl (by decide +kernel)) (piTK (K := K) rfl (pe_ix (ixTK (K := K) rfl) (pv 0) pe_int (fun _ _ => rfl))) (blkOk_by (N := N__law_bent) (sc := defScope s__law_bent) (by decide +kernel)) (fun _ _ _ _ _ => (pg_name (i := 6) sc__law_bent.nd rfl (Or.inl rfl))) (fun _ _ _ _ _ => pts_nil) (fun _ _ _ _ _ => (pe_ifExp (pt_val (pe_callB (isiK (K := K) rfl) rfl T.z_isinstance (by decide +kernel) (pa_cons (pv 6) (pa_cons (pe_bltn (v := .ty "str") rfl T.z_str (by decide +kernel) rfl) pa_nil (star1 rfl)) (star1 rfl)) (by decide) (by decide) (star1 rfl) (starAll rfl))) (pv 6) (pe_call ih hr rfl T.m__law_bent T.F__law_bent.kp (b__law_bent T) .nil pass0 (pa_cons (pv 6) (pa_cons (pv 1) (pa_cons (pv 2) (pa_cons (pv 3) (pa_cons (pv 4) pa_nil (star1 rfl)) (star1 rfl)) (star1 rfl)) (star1 rfl)) (star1 rfl)) (by decide) (star1 rfl) (starAll rfl)))))
  (pss_cons (ps_if (PW.pt (pw_and (pt_cmpR op_eq (pe_ix (ixTK (K := K) rfl) (pv 0) pe_int (fun _ _ => rfl)) (pv 1) (nomark _)) (pw_and1 (pt_cmpR op_eq (pv 2) pe_int (nomark _))))) (pss_one (ps_expr (pe_bm PySem.F.plainAttrs_list PySem.F.slot_list_append PySem.F.type_list_append mt_append (pv 5) (pa_cons (pv 4) pa_nil (star1 rfl))))) pss_nil)
  (pss_one (ps_ret (pe_tup (pa_cons (pe_ix (ixTK (K := K) rfl) (pv 0) pe_int (fun _ _ => rfl)) (pa_cons (pe_ifExp (PW.pt (pw_and (pt_cmpR op_eq (pe_ix (ixTK (K := K) rfl) (pv 0) pe_int (fun _ _ => rfl)) (pv 1) (nomark _)) (pw_and1 (pt_cmpR op_eq (pv 2) pe_int (nomark _))))) (pv 3) (pe_ix (ixTK (K := K) rfl) (pv 0) pe_int (fun _ _ => rfl))) (pa_cons (pe_callTy call_tuple_of rfl T.z_tuple (by decide +kernel) (pa_cons (pv 5) pa_nil (star1 rfl)) (by decide) (by decide) (star1 rfl) (starAll rfl)) pa_nil (star1 rfl)) (star1 rfl)) (star1 rfl))))))), ?_⟩
  cases tv with
  | @grp a m _ _ xs _ h1 h2 h3 =>
    obtain ⟨k, rfl⟩ : ∃ k, d = k + 1 := ⟨d - 1, by simp only [Tr.deep] at hdp; omega⟩
    have eR := hR k rfl
    subst eR
    have hsz2 : sizes ms ≤ 1000 := by simp only [Tr.size] at hsz; omega
    have hdp2 : deeps ms ≤ k := by simp only [Tr.deep] at hdp; omega
    have hls := len_sizes ms
    refine q_asgP ?_
    have ix2 : ∀ {σ : L2.St}, σ[0]? = some (some (.ref a)) → Ev (tOp (rIxT K) (tVar 0) (tC (.int 2))) σ H (.ref m) := fun hσ => ev_ixT (ev_var hσ) ev_c (st_of h1) rfl
    refine ix2 rfl H (Ex.refl H) _ fun H1 e1 => ⟨m, rfl, ⟨xs, st_of (e1 _ _ h2)⟩, fun D hD => ?_⟩
    have HD := fresh_back e1 hD
    refine lc_tup (K := K) (a := m) (xs := xs) (fun i H' => Ex H H' ∧ ∃ ys, H' D = some (.lst ys) ∧ TrVs H' ys (bentTs o wy bd z (ms.take i))) ⟨e1.trans (Ex.new hD), [], upd_same, .nil⟩ (fun i H' _ hP => st_of (hP.1 _ _ h2)) ?_ ?_
    · intro i x H2 hx hP
      obtain ⟨e2, ys, hacc, tys⟩ := hP
      obtain ⟨t, ht, tv⟩ := trvs_get h3 hx
      have tv2 := trv_tk (TK.ex e2) t x tv
      have s1 := sizes_mem ht
      have s2 := deeps_mem ht
      have yl := trvs_len tys
      rw [bents_len, List.length_take] at yl
      refine ⟨rfl, tYesQ ?_⟩
      refine (et_B (ev_isHand (ev_var rfl) tv2)) H2 (Ex.refl H2) _ fun H3 e3 => ?_
      refine ite2 (fun hb => ?_) (fun hb => ?_)
      · cases tv2 with
        | hand nm =>
          refine ⟨_, rfl, ys, e3 _ _ hacc, sz_lt (by omega), Ex.mut (e2.trans e3) HD, _, upd_same, ?_⟩
          rw [bents_take ht]
          refine trvs_app (trvs_tk ((TK.ex e3).trans (TK.lst (e3 _ _ hacc))) _ _ tys) (.cons ?_ .nil)
          simp only [bentT]
          exact .hand _
        | grp _ _ _ => cases hb
      · cases tv2 with
        | hand nm => exact absurd rfl hb
        | @grp a' m' n' b' xs' ms' g1 g2 g3 =>
          refine ⟨_, rfl, _, rfl, _, rfl, _, rfl, _, rfl, .ref a', n', o, z, b', wy, bd, ms', rfl, trv_tk (TK.ex e3) _ _ (.grp g1 g2 g3), by omega, by omega, fun v' H4 e4 tv4 => ⟨ys, e4 _ _ (e3 _ _ hacc), sz_lt (by omega), Ex.mut ((e2.trans e3).trans e4) HD, _, upd_same, ?_⟩⟩
          rw [bents_take ht]
          have tkP : TK H4 (upd H4 D (.lst (ys ++ [v']))) := TK.lst (e4 _ _ (e3 _ _ hacc))
          exact trvs_app (trvs_tk ((TK.ex (e3.trans e4)).trans tkP) _ _ tys) (.cons (trv_tk tkP _ _ tv4) .nil)
    intro H2 hP
    obtain ⟨e2, ys, hacc, tys⟩ := hP
    rw [trvs_len h3, List.take_length] at tys
    have yl := trvs_len tys
    rw [bents_len] at yl
    have both : ∀ {c : Int} {σ : L2.St} {H' : Hp}, Ex H H' → σ[0]? = some (some (.ref a)) → σ[1]? = some (some (.str o)) → σ[2]? = some (some (.int wy)) → EvT (tAnd (tTest (tOp rEq (tOp (rIxT K) (tVar 0) (tC (.int 0))) (tVar 1))) (tTest (tOp rEq (tVar 2) (tC (.int c))))) σ H' (decide (n = o ∧ wy = c)) := fun e s0 s1 s2 => by
      refine et_is (et_and (et_test (ev_eq (ev_ixT (v := .str n) (ev_var s0) ev_c (st_of (e _ _ h1)) rfl) (ev_var s1) rfl)) fun _ => et_test (ev_eq (ev_var s2) ev_c rfl)) ?_
      rw [← Bool.decide_and]
      exact decide_eq_decide.mpr ⟨fun y => ⟨V.str.inj y.1, V.int.inj y.2⟩, fun y => ⟨congrArg V.str y.1, congrArg V.int y.2⟩⟩
    refine q_whenM (fun σ' H' => Ex H H' ∧ σ' = [some (.ref a), some (.str o), some (.int wy), some (.int bd), some (.str z), some (.ref D), none] ∧ ∃ ys, H' D = some (.lst ys) ∧ TrVs H' ys (bentTs o wy bd z ms ++ (if n = o ∧ wy = 1 then [.hand z] else []))) (both e2 rfl rfl rfl) ?_ ?_ ?_
    rotate_left
    · intro R hR hb H3 e3
      have hb := of_decide_eq_true hb
      refine s_app (K := K) (v := .str z) (e3 _ _ hacc) (ev_var rfl) (ev_var rfl) (by omega) fun H4 e4 => ?_
      refine hR _ _ ⟨Ex.mut ((e2.trans e3).trans e4) HD, rfl, _, upd_same, ?_⟩
      rw [if_pos hb]
      exact trvs_app (trvs_tk ((TK.ex (e3.trans e4)).trans (TK.lst (e4 _ _ (e3 _ _ hacc)))) _ _ tys) (.cons (.hand _) .nil)
    · intro hb H3 e3
      have hb := of_decide_eq_false hb
      refine ⟨e2.trans e3, rfl, ys, e3 _ _ hacc, ?_⟩
      rw [if_neg hb, List.append_nil]
      exact trvs_tk (TK.ex e3) _ _ tys
    intro σ' H3 hM
    obtain ⟨e3, rfl, zs, hz3, tzs⟩ := hM
    refine s_retP ?_
    have nm : Ev (tOp (rIxT K) (tVar 0) (tC (.int 0))) [some (.ref a), some (.str o), some (.int wy), some (.int bd), some (.str z), some (.ref D), none] H3 (.str n) := ev_ixT (ev_var rfl) ev_c (st_of (e3 _ _ h1)) rfl
    have bo : ∀ {H'}, Ex H3 H' → Ev (tIf (tAnd (tTest (tOp rEq (tOp (rIxT K) (tVar 0) (tC (.int 0))) (tVar 1))) (tTest (tOp rEq (tVar 2) (tC (.int 0))))) (tVar 3) (tOp (rIxT K) (tVar 0) (tC (.int 1)))) [some (.ref a), some (.str o), some (.int wy), some (.int bd), some (.str z), some (.ref D), none] H' (.int (if n = o ∧ wy = 0 then bd else b)) := fun e => by
      refine ev_if (both (c := 0) (e3.trans e) rfl rfl rfl) (fun hb => ?_) (fun hb => ?_)
      · rw [if_pos (of_decide_eq_true hb)]
        exact ev_var rfl
      · rw [if_neg (of_decide_eq_false hb)]
        exact ev_ixT (ev_var rfl) ev_c (st_of ((e3.trans e) _ _ h1)) rfl
    refine nm H3 (Ex.refl H3) _ fun H4 e4 => ?_
    refine bo e4 H4 (Ex.refl H4) _ fun H5 e5 => ?_
    have e35 := e4.trans e5
    refine ⟨_, rfl, D, zs, rfl, Or.inl ⟨sq_of (e35 _ _ hz3), fun t ht => ⟨(by show 3 ≤ sizeLine; decide), fun g hg => ?_⟩⟩⟩
    have e6 := (Ex.new (o := .tup zs) ht).trans (Ex.new (o := .tup [.str n, .int (if n = o ∧ wy = 0 then bd else b), .ref t]) hg)
    refine q (.ref g) _ ((e3.trans e35).trans e6) ?_
    simp only [bentT]
    exact .grp upd_same ((Ex.new hg) _ _ upd_same) (trvs_tk (TK.ex (e35.trans e6)) _ _ tzs)
theorem be_all (T : Tp w K mg) : ∀ d, FnOk P w K mg base CX0 (d + 1) T.f__law_bent T.d__law_bent ["_law_plan_here", "_law_name_here", "_law_way", "_law_bound", "_law_box"] (spBent d)
  | 0 => be_step T (spR := fun _ _ _ _ => False) ⟨fun _ _ _ _ h => h.elim, fun _ _ _ _ _ _ _ _ _ _ _ _ _ h => h.elim⟩ (fun k h => by cases h)
  | d + 1 => be_step T (be_all T d) (fun k h => by cases h; rfl)
theorem ok__law_bent (T : Tp w K mg) : FnOk P w K mg base CX0 5 T.f__law_bent T.d__law_bent ["_law_plan_here", "_law_name_here", "_law_way", "_law_bound", "_law_box"] (spBent 4) := be_all T 4
theorem ok__law_otherwise (T : Tp w K mg) : FnOk P w K mg base CX0 6 T.f__law_otherwise T.d__law_otherwise ["_law_hand_here", "_law_plan_here", "_law_box"] spOther := by
  refine T.F__law_otherwise.ok sc__law_otherwise (fun vs H Q E h => ?_) (fun cdv A outer s H vs Q E hr h => ?_)
  · obtain ⟨h, v, z, n, d, ms, C, rfl, _⟩ := h
    rfl
  obtain ⟨h, v, z, n, d, ms, C, rfl, A0, hC, tv, pg, hz, q⟩ := h
  refine ⟨_, (pss_cons (ps_set (i := 3) sc__law_otherwise.nd rfl (Or.inl rfl) (pe_call (ok__law_groups T) (hr.mono (by decide)) rfl T.m__law_groups T.F__law_groups.kp (b__law_groups T) .nil pass0 (pa_cons (pv 1) pa_nil (star1 rfl)) (by decide) (star1 rfl) (starAll rfl)))
  (pss_one (ps_ret (pe_call (ok__law_bent T) (hr.mono (by decide)) rfl T.m__law_bent T.F__law_bent.kp (b__law_bent T) .nil pass0 (pa_cons (pv 1) (pa_cons (pe_ix (ixTK (K := K) rfl) (pe_call (ok__law_pick T) (hr.mono (by decide)) rfl T.m__law_pick T.F__law_pick.kp (b__law_pick T) .nil pass0 (pa_cons (pv 0) (pa_cons (pv 3) pa_nil (star1 rfl)) (star1 rfl)) (by decide) (star1 rfl) (starAll rfl)) pe_int (fun _ _ => rfl)) (pa_cons (pe_call (ok__law_take T) (hr.mono (by decide)) rfl T.m__law_take T.F__law_take.kp (b__law_take T) .nil pass0 (pa_cons (pv 0) (pa_cons pe_int pa_nil (star1 rfl)) (star1 rfl)) (by decide) (star1 rfl) (starAll rfl)) (pa_cons (pe_op op_add pe_int (pe_call (ok__law_take T) (hr.mono (by decide)) rfl T.m__law_take T.F__law_take.kp (b__law_take T) .nil pass0 (pa_cons (pv 0) (pa_cons pe_int pa_nil (star1 rfl)) (star1 rfl)) (by decide) (star1 rfl) (starAll rfl))) (pa_cons (pv 2) pa_nil (star1 rfl)) (star1 rfl)) (star1 rfl)) (star1 rfl)) (star1 rfl)) (by decide) (star1 rfl) (starAll rfl))))), ?_⟩
  refine q_asgP ?_
  have hdp := pg.dp
  have hsz := pg.sz
  refine ⟨_, rfl, v, n, d, ms, rfl, tv, by omega, by omega, fun r gs H1 hr1 e1 h1 tvs => ?_⟩
  have A1 := A0.ex e1
  have rh : r ≠ h := A0.fresh hr1
  have gl := gs_len (.grp n d ms)
  have gl2 := trvs_len tvs
  have gl3 : 1 ≤ (gsT (.grp n d ms)).length := by simp [gsT]
  refine s_retP ?_
  refine ⟨_, rfl, _, rfl, _, rfl, h, r, gs, C, rfl, A1, by omega, h1, rh, by omega, by omega, fun u H2 hu A2 k2 => ?_⟩
  obtain ⟨i, hi⟩ := List.getElem?_of_mem hu
  obtain ⟨t, ht, tu⟩ := trvs_get tvs hi
  obtain ⟨_, _, _, n', b', ms', rfl⟩ := gs_fine _ pg.ok t (List.mem_of_getElem? ht)
  have tk2 := tk_bx A1 k2
  cases tu with
  | @grp a' m' _ _ xs' _ g1 g2 g3 =>
    refine ⟨a', _, 0, .str n', rfl, rfl, st_of (tk2 _ _ g1), rfl, ?_⟩
    refine take_at rfl A2 (by omega) (by decide) (by decide) fun r1 H3 r10 r11 A3 k3 => ?_
    refine take_at rfl A3 (by omega) (by decide) (by decide) fun r2 H4 r20 r21 A4 k4 => ⟨1, r2, rfl, rfl, ?_⟩
    have tk4 : TK H H4 := (((TK.ex e1).trans tk2).trans (tk_bx A2 k3)).trans (tk_bx A3 k4)
    refine ⟨_, rfl, v, n, n', z, d, r1, 1 + r2, ms, rfl, trv_tk tk4 _ _ tv, by omega, by omega, fun v' H5 e5 tv5 => ?_⟩
    obtain ⟨f1, f2, f3, f4, f5⟩ := bent_facts (o := n') (wy := r1) (bd := 1 + r2) hz (by omega) (by omega) (.grp n d ms) pg.ok pg.nm
    have k05 : Kp h h H H5 := (((Kp.ex e1).trans k2).trans (k3.trans k4)).trans (Kp.ex e5)
    simp only [bentT] at tv5 f1 f2 f3 f4 f5
    refine q v' _ _ _ H5 (A4.ex e5) k05 tv5 ⟨f1, by omega, f4, by omega, ?_⟩
    simp only [Tr.gn] at f5
    have := (List.cons.inj f5).2
    rw [this]
    exact pg.un
end

/-! ### the law -/
def spLaw (K : PySem.W.Frag) : Sp := fun vs H Q _ => ∃ (a : Addr) (ns : List Int), vs = [.ref a] ∧ SqL K H a (ns.map V.int) ∧ ns.length ≤ 63 ∧ ∀ H', Q (.bl true) H'
theorem s_forW {wi : TI} {g : TG} {tb : TS} {D : Ends} {σ : L2.St} {H : Hp} (h : wi σ H fun J H1 => ∃ W : Nat → Nat → L2.St → Hp → Prop, (∃ m, W 0 m σ H1) ∧ ∀ i m σ H, W i m σ H →
    (J.stop i H ∧ D.nx σ H) ∨ (J.go i H ∧ ∃ N : L2.St → Hp → Prop, (∀ σ' H', N σ' H' → ∃ m', m' < m ∧ W (i + 1) m' σ' H') ∧ ∀ x H', J.yld i H x H' → g x σ H' fun σ2 H2 => tb { D with nx := N, ct := N, bk := D.nx } σ2 H2)) : tFor wi g tb D σ H := h
theorem zz_ok : nameOk (Str.ofString "zz") := by unfold nameOk; decide +kernel
theorem more_ok : nameOk (Str.ofString "more") := by unfold nameOk; decide +kernel
section
variable {P : Program} {w : World} {K : PySem.W.Frag} {mg : Str → Option Value} {base : Heap}
theorem ok_law (T : Tp w K mg) : FnG P w K mg base 29 T.f_law T.d_law ["_law_script"] (spLaw K) := by
  refine fun_g T.F_law sc_law (fun vs H Q E h => ?_) (fun cdv A outer s H vs Q E hG hr h => ?_)
  · obtain ⟨a, ns, rfl, _⟩ := h
    rfl
  obtain ⟨a, ns, rfl, hS, h63, q⟩ := h
  refine ⟨_, (pss_cons (ps_for PassesOwn.never rfl (pi_range1 rfl T.z_range (pa_cons (pe_op op_add pe_int (pe_callB (call_min2 rfl) rfl T.z_min (by decide +kernel) (pa_cons pe_int (pa_cons (pe_callB (lenK (K := K) rfl) rfl T.z_len PySem.boot_len (pa_cons (pv 0) pa_nil (star1 rfl)) (by decide) (by decide) (star1 rfl) (starAll rfl)) pa_nil (star1 rfl)) (star1 rfl)) (by decide) (by decide) (star1 rfl) (starAll rfl))) pa_nil (star1 rfl))) (pg_name (i := 1) sc_law.nd rfl (Or.inl rfl)) (pss_cons (ps_set (i := 2) sc_law.nd rfl (Or.inl rfl) (pe_call (ok__law_hand T) (hr.mono (by decide)) rfl T.m__law_hand T.F__law_hand.kp (b__law_hand T) .nil pass0 (pa_cons (pv 0) (pa_cons (pv 1) pa_nil (star1 rfl)) (star1 rfl)) (by decide) (star1 rfl) (starAll rfl)))
  (pss_one (ps_for PassesOwn.never rfl (pi_range1 rfl T.z_range (pa_cons pe_int pa_nil (star1 rfl))) (pg_name (i := 3) sc_law.nd rfl (Or.inl rfl)) (pss_cons (ps_set (i := 4) sc_law.nd rfl (Or.inl rfl) (pe_call (ok__law_plan T) (hr.mono (by decide)) rfl T.m__law_plan T.F__law_plan.kp (b__law_plan T) .nil pass0 (pa_cons (pv 2) (pa_cons (pe_cmpR op_eq (pe_op op_mod (pv 3) pe_int) pe_int (nomark _)) pa_nil (star1 rfl)) (star1 rfl)) (by decide) (star1 rfl) (starAll rfl)))
  (pss_one (ps_for PassesOwn.never rfl (pi_tup (pe_tup (pa_cons (pv 4) (pa_cons (pe_call (ok__law_otherwise T) (hr.mono (by decide)) rfl T.m__law_otherwise T.F__law_otherwise.kp (b__law_otherwise T) .nil pass0 (pa_cons (pv 2) (pa_cons (pv 4) (pa_cons pe_str pa_nil (star1 rfl)) (star1 rfl)) (star1 rfl)) (by decide) (star1 rfl) (starAll rfl)) (pa_cons (pe_call (ok__law_otherwise T) (hr.mono (by decide)) rfl T.m__law_otherwise T.F__law_otherwise.kp (b__law_otherwise T) .nil pass0 (pa_cons (pv 2) (pa_cons (pv 4) (pa_cons pe_str pa_nil (star1 rfl)) (star1 rfl)) (star1 rfl)) (by decide) (star1 rfl) (starAll rfl)) pa_nil (star1 rfl)) (star1 rfl)) (star1 rfl)))) (pg_name (i := 5) sc_law.nd rfl (Or.inl rfl)) (pss_cons (ps_set (i := 6) sc_law.nd rfl (Or.inl rfl) (pe_callB (reprK (K := K) rfl hG (hu_r hr)) rfl T.z_repr (by decide +kernel) (pa_cons (pv 5) pa_nil (star1 rfl)) (by decide) (by decide) (star1 rfl) (starAll rfl)))
  (pss_cons (ps_set (i := 7) sc_law.nd rfl (Or.inl rfl) (pe_call (ok_is_even T) (hr.mono (by decide)) rfl T.m_is_even T.F_is_even.kp (b_is_even T) .nil pass0 (pa_cons (pv 5) pa_nil (star1 rfl)) (by decide) (star1 rfl) (starAll rfl)))
  (pss_one (ps_if (PW.pt (pw_or (pt_not (pt_val (pe_callB (isiK (K := K) rfl) rfl T.z_isinstance (by decide +kernel) (pa_cons (pv 7) (pa_cons (pe_bltn (v := .ty "bool") rfl T.z_bool (by decide +kernel) rfl) pa_nil (star1 rfl)) (star1 rfl)) (by decide) (by decide) (star1 rfl) (starAll rfl)))) (pw_or (pt_cmpR op_ne (pv 7) (pe_call (ok__law_is_even T) (hr.mono (by decide)) rfl T.m__law_is_even T.F__law_is_even.kp (b__law_is_even T) .nil pass0 (pa_cons (pv 5) pa_nil (star1 rfl)) (by decide) (star1 rfl) (starAll rfl)) (nomark _)) (pw_or1 (pt_cmpR op_ne (pe_callB (reprK (K := K) rfl hG (hu_r hr)) rfl T.z_repr (by decide +kernel) (pa_cons (pv 5) pa_nil (star1 rfl)) (by decide) (by decide) (star1 rfl) (starAll rfl)) (pv 6) (nomark _)))))) (pss_one (ps_ret pe_bl)) pss_nil)))))))))))
  (pss_one (ps_ret pe_bl))), ?_⟩
  refine q_forR1 (n := 1 + (if (ns.length : Int) < 3 then (ns.length : Int) else 3)) (ea_cons (ev_I0 (g := fun i j => .int (i + j)) ev_c (ev_cb (ea_cons ev_c (ea_cons (ev_is (ev_len (ev_var rfl) hS) (by rw [List.length_map])) ea_nil)) fun H1 e Q' q' => ⟨_, _, rfl, q' H1 (Ex.refl H1)⟩)) ea_nil) (by split <;> omega) (fun i σ' H' => Ex H H' ∧ ∃ c1 c2 c3 c4 c5 c6 c7, σ' = [some (.ref a), c1, c2, c3, c4, c5, c6, c7]) ?_ ?_ ?_
  · intro H1 e1
    exact ⟨e1, _, _, _, _, _, _, _, rfl⟩
  rotate_left
  · intro σ' H1 hP
    exact s_ret ev_c fun H2 e2 => q H2
  intro k σ' H1 hk hP
  obtain ⟨e1, c1, c2, c3, c4, c5, c6, c7, rfl⟩ := hP
  have hk63 : k ≤ 63 := by
    have : (k : Int) < 1 + (if (ns.length : Int) < 3 then (ns.length : Int) else 3) := by omega
    split at this <;> omega
  refine q_asgP ?_
  refine ⟨_, rfl, _, rfl, a, ns, k, by first | rfl | simp, ex_l e1 hS, h63, hk63, fun h H2 e2 hh A2 => ?_⟩
  refine s_forR1 (n := 6) (ea_cons ev_c ea_nil) (by decide) (fun i σ' H' => Ex H1 H' ∧ Bx H' h (70 * i) ∧ ∃ c3 c4 c5 c6 c7, σ' = [some (.ref a), some (.int (k : Int)), some (.ref h), c3, c4, c5, c6, c7]) ?_ ?_ ?_
  · intro H3 e3
    exact ⟨e2.trans e3, A2.ex e3, _, _, _, _, _, rfl⟩
  rotate_left
  · intro σ' H3 hP
    obtain ⟨e3, _, c3, c4, c5, c6, c7, rfl⟩ := hP
    exact ⟨e1.trans e3, _, _, _, _, _, _, _, rfl⟩
  intro t σ' H3 ht hP
  obtain ⟨e3, A3, c3, c4, c5, c6, c7, rfl⟩ := hP
  have C3 : 70 * t ≤ 1000 := by omega
  refine q_asgP ?_
  refine ⟨_, rfl, ?_⟩
  have evn : Ev (tOp rEq (tOp (rI (fun _ j => 0 < j) fun i j => .int (i % j)) (tVar 3) (tC (.int 2))) (tC (.int 0))) [some (.ref a), some (.int (k : Int)), some (.ref h), some (.int (t : Int)), c4, c5, c6, c7] H3 (.bl (decide (V.int ((t : Int) % 2) = V.int 0))) := ev_eq (ev_I (by decide) (ev_var rfl) ev_c) ev_c rfl
  refine evn H3 (Ex.refl H3) _ fun H4 e4 => ?_
  refine ⟨h, _, _, rfl, A3.ex e4, by omega, fun v n d ms H5 A5 k5 tv5 pg => ?_⟩
  refine s_forW ?_
  refine ⟨_, rfl, ?_⟩
  refine ⟨_, rfl, _, rfl, h, v, _, n, d, ms, _, rfl, A5, by omega, tv5, pg, zz_ok, fun v1 n1 d1 ms1 H6 A6 k6 tv6 ph6 => ?_⟩
  have tv56 := trv_tk (tk_bx A5 k6) _ _ tv5
  refine ⟨_, rfl, _, rfl, h, v, _, n, d, ms, _, rfl, A6, by omega, tv56, pg, more_ok, fun v2 n2 d2 ms2 H7 A7 k7 tv7 ph7 => ?_⟩
  refine ⟨(by show 3 ≤ sizeLine; decide), fun p hp => ⟨p, rfl, ⟨_, st_of upd_same⟩, ?_⟩⟩
  have e8 := Ex.new (o := .tup [v, v1, v2]) hp
  have h8 : upd H7 p (.tup [v, v1, v2]) p = some (.tup [v, v1, v2]) := upd_same
  generalize upd H7 p (.tup [v, v1, v2]) = H8 at e8 h8
  have tk67 := tk_bx A6 k7
  have all : ∀ x ∈ [v, v1, v2], ∃ n d ms, TrV H8 x (.grp n d ms) ∧ PH n d ms := by
    intro x hx
    simp only [List.mem_cons, List.not_mem_nil, or_false] at hx
    rcases hx with rfl | rfl | rfl
    · exact ⟨n, d, ms, trv_tk (tk67.trans (TK.ex e8)) _ _ tv56, pg.ph⟩
    · exact ⟨n1, d1, ms1, trv_tk (tk67.trans (TK.ex e8)) _ _ tv6, ph6⟩
    · exact ⟨n2, d2, ms2, trv_tk (TK.ex e8) _ _ tv7, ph7⟩
  have e18 : Ex H1 H8 := (ex_kp (ex_kp (ex_kp (e3.trans e4) hh k5) hh k6) hh k7).trans e8
  have A8 : Bx H8 h (70 * (t + 1)) := (A7.ex e8).up (by omega)
  refine for_tup (K := K) (a := p) (xs := [v, v1, v2]) (fun i σ' H' => Ex H8 H' ∧ ∃ c5 c6 c7, σ' = [some (.ref a), some (.int (k : Int)), some (.ref h), some (.int (t : Int)), some v, c5, c6, c7]) ⟨Ex.refl H8, _, _, _, rfl⟩ (fun i σ' H' _ hP => st_of (hP.1 _ _ h8)) ?_ ?_
  · intro i x σ' H9 hx hP
    obtain ⟨e9, c5, c6, c7, rfl⟩ := hP
    obtain ⟨n', d', ms', tx, px⟩ := all x (List.mem_of_getElem? hx)
    have hd := px.dp
    have hs := px.sz
    have sh := shows_plan px.nm px.ok (by omega) (by omega)
    have txx : ∀ {H' : Hp}, Ex H8 H' → TrV H' x (.grp n' d' ms') := fun e => trv_tk (TK.ex e) _ _ tx
    obtain ⟨ax, rfl⟩ : ∃ ax, x = .ref ax := by
      cases tx with
      | grp _ _ _ => exact ⟨_, rfl⟩
    refine q_asg (v := .str (Tr.grp n' d' ms').dat.shown) (ev_repr (a := ax) (ev_var rfl) (trv_dp _ _ (txx e9)) sh) fun H10 e10 => ?_
    refine q_asg (v := .bl (levels ms')) (ev_call (ea_cons (ev_var rfl) ea_nil) fun H11 e11 Q' q' E' => ⟨.ref ax, n', d', ms', rfl, txx ((e9.trans e10).trans e11), px.ok, by omega, by decide, by omega, q'⟩) fun H11 e11 => ?_
    have e811 := (e9.trans e10).trans e11
    refine s_when (b := false) (et_is (et_or (a := false) (b := false) (et_is (et_not (et_B (ev_isX (ev_var rfl) (Dx.bl _) (kt_bool (.bool (levels ms')))))) rfl) fun _ => et_is (et_or (a := false) (b := false) (et_is (et_test (ev_ne (y := .bl (levels ms')) (ev_var rfl) (ev_call (ea_cons (ev_var rfl) ea_nil) fun H12 e12 Q' q' E' => ⟨.ref ax, n', d', ms', rfl, txx (e811.trans e12), px.ok, by omega, by omega, px.un, q'⟩) rfl)) (by rw [decide_eq_true rfl]; rfl)) fun _ => et_is (et_test (ev_ne (ev_repr (a := ax) (ev_var rfl) (trv_dp _ _ (txx e811)) sh) (ev_var rfl) rfl)) (by rw [decide_eq_true rfl]; rfl)) rfl) rfl) (fun hb => by cases hb) (fun _ H12 e12 => ?_)
    exact ⟨e811.trans e12, _, _, _, rfl⟩
  · intro σ' H9 hP
    obtain ⟨e9, c5, c6, c7, rfl⟩ := hP
    exact ⟨e18.trans e9, A8.ex e9, _, _, _, _, _, rfl⟩
end

theorem all_mk {l : PySem.W.OpenLaw} {w : World} {K : PySem.W.Frag} {h : Heap} {mg : Str → Option Value} {fa f0 f1 f2 f3 f4 f5 f6 f7 f8 f9 f10 f11 f12 f13 f14 f15 f16 f17 f18 f19 : Addr} (X : K.In h) (G : h.Ns mainGlobals mg) (hfa : mg "law" = some (.ref fa))
    {od0 an0 od1 an1 od2 an2 od3 an3 od4 an4 od5 an5 od6 an6 od7 an7 od8 an8 od9 an9 od10 an10 od11 an11 od12 an12 od13 an13 od14 an14 od15 an15 od16 an16 od17 an17 od18 an18 od19 an19 : Option Addr} {sl0 sl1 sl2 sl3 sl4 sl5 sl6 sl7 sl8 sl9 sl10 sl11 sl12 sl13 sl14 sl15 sl16 sl17 sl18 sl19 : Array (Option Value)} {oc0 kV0 dc0 pm0 cd0 ct0 oc1 kV1 dc1 pm1 cd1 ct1 oc2 kV2 dc2 pm2 cd2 ct2 oc3 kV3 dc3 pm3 cd3 ct3 oc4 kV4 dc4 pm4 cd4 ct4 oc5 kV5 dc5 pm5 cd5 ct5 oc6 kV6 dc6 pm6 cd6 ct6 oc7 kV7 dc7 pm7 cd7 ct7 oc8 kV8 dc8 pm8 cd8 ct8 oc9 kV9 dc9 pm9 cd9 ct9 oc10 kV10 dc10 pm10 cd10 ct10 oc11 kV11 dc11 pm11 cd11 ct11 oc12 kV12 dc12 pm12 cd12 ct12 oc13 kV13 dc13 pm13 cd13 ct13 oc14 kV14 dc14 pm14 cd14 ct14 oc15 kV15 dc15 pm15 cd15 ct15 oc16 kV16 dc16 pm16 cd16 ct16 oc17 kV17 dc17 pm17 cd17 ct17 oc18 kV18 dc18 pm18 cd18 ct18 oc19 kV19 dc19 pm19 cd19 ct19 : Value}
    (a0 : PySem.W.nsIn K mainGlobals "hands_of" = some (some (.ref f0))) (l0 : K.lookup f0 = some ⟨oc0, od0, .func (PySem.W.fnOf "hands_of" "hands_of" (defArgs s_hands_of) (defBody s_hands_of) (defScope s_hands_of) .none kV0 dc0 pm0 an0 cd0 ct0), sl0⟩) (c0 : PySem.W.codeIn K cd0 "hands_of" = true) (k0 : PySem.W.keepIn K (.ref f0) = true)
    (a1 : PySem.W.nsIn K mainGlobals "all_in" = some (some (.ref f1))) (l1 : K.lookup f1 = some ⟨oc1, od1, .func (PySem.W.fnOf "all_in" "all_in" (defArgs s_all_in) (defBody s_all_in) (defScope s_all_in) .none kV1 dc1 pm1 an1 cd1 ct1), sl1⟩) (c1 : PySem.W.codeIn K cd1 "all_in" = true) (k1 : PySem.W.keepIn K (.ref f1) = true)
    (a2 : PySem.W.nsIn K mainGlobals "all_from" = some (some (.ref f2))) (l2 : K.lookup f2 = some ⟨oc2, od2, .func (PySem.W.fnOf "all_from" "all_from" (defArgs s_all_from) (defBody s_all_from) (defScope s_all_from) .none kV2 dc2 pm2 an2 cd2 ct2), sl2⟩) (c2 : PySem.W.codeIn K cd2 "all_from" = true) (k2 : PySem.W.keepIn K (.ref f2) = true)
    (a3 : PySem.W.nsIn K mainGlobals "member_turn" = some (some (.ref f3))) (l3 : K.lookup f3 = some ⟨oc3, od3, .func (PySem.W.fnOf "member_turn" "member_turn" (defArgs s_member_turn) (defBody s_member_turn) (defScope s_member_turn) .none kV3 dc3 pm3 an3 cd3 ct3), sl3⟩) (c3 : PySem.W.codeIn K cd3 "member_turn" = true) (k3 : PySem.W.keepIn K (.ref f3) = true)
    (a4 : PySem.W.nsIn K mainGlobals "is_even" = some (some (.ref f4))) (l4 : K.lookup f4 = some ⟨oc4, od4, .func (PySem.W.fnOf "is_even" "is_even" (defArgs s_is_even) (defBody s_is_even) (defScope s_is_even) .none kV4 dc4 pm4 an4 cd4 ct4), sl4⟩) (c4 : PySem.W.codeIn K cd4 "is_even" = true) (k4 : PySem.W.keepIn K (.ref f4) = true)
    (a5 : PySem.W.nsIn K mainGlobals "is_level" = some (some (.ref f5))) (l5 : K.lookup f5 = some ⟨oc5, od5, .func (PySem.W.fnOf "is_level" "is_level" (defArgs s_is_level) (defBody s_is_level) (defScope s_is_level) .none kV5 dc5 pm5 an5 cd5 ct5), sl5⟩) (c5 : PySem.W.codeIn K cd5 "is_level" = true) (k5 : PySem.W.keepIn K (.ref f5) = true)
    (a6 : PySem.W.nsIn K mainGlobals "_law_hand" = some (some (.ref f6))) (l6 : K.lookup f6 = some ⟨oc6, od6, .func (PySem.W.fnOf "_law_hand" "_law_hand" (defArgs s__law_hand) (defBody s__law_hand) (defScope s__law_hand) .none kV6 dc6 pm6 an6 cd6 ct6), sl6⟩) (c6 : PySem.W.codeIn K cd6 "_law_hand" = true) (k6 : PySem.W.keepIn K (.ref f6) = true)
    (a7 : PySem.W.nsIn K mainGlobals "_law_take" = some (some (.ref f7))) (l7 : K.lookup f7 = some ⟨oc7, od7, .func (PySem.W.fnOf "_law_take" "_law_take" (defArgs s__law_take) (defBody s__law_take) (defScope s__law_take) .none kV7 dc7 pm7 an7 cd7 ct7), sl7⟩) (c7 : PySem.W.codeIn K cd7 "_law_take" = true) (k7 : PySem.W.keepIn K (.ref f7) = true)
    (a8 : PySem.W.nsIn K mainGlobals "_law_pick" = some (some (.ref f8))) (l8 : K.lookup f8 = some ⟨oc8, od8, .func (PySem.W.fnOf "_law_pick" "_law_pick" (defArgs s__law_pick) (defBody s__law_pick) (defScope s__law_pick) .none kV8 dc8 pm8 an8 cd8 ct8), sl8⟩) (c8 : PySem.W.codeIn K cd8 "_law_pick" = true) (k8 : PySem.W.keepIn K (.ref f8) = true)
    (a9 : PySem.W.nsIn K mainGlobals "_law_name" = some (some (.ref f9))) (l9 : K.lookup f9 = some ⟨oc9, od9, .func (PySem.W.fnOf "_law_name" "_law_name" (defArgs s__law_name) (defBody s__law_name) (defScope s__law_name) .none kV9 dc9 pm9 an9 cd9 ct9), sl9⟩) (c9 : PySem.W.codeIn K cd9 "_law_name" = true) (k9 : PySem.W.keepIn K (.ref f9) = true)
    (a10 : PySem.W.nsIn K mainGlobals "_law_lot" = some (some (.ref f10))) (l10 : K.lookup f10 = some ⟨oc10, od10, .func (PySem.W.fnOf "_law_lot" "_law_lot" (defArgs s__law_lot) (defBody s__law_lot) (defScope s__law_lot) .none kV10 dc10 pm10 an10 cd10 ct10), sl10⟩) (c10 : PySem.W.codeIn K cd10 "_law_lot" = true) (k10 : PySem.W.keepIn K (.ref f10) = true)
    (a11 : PySem.W.nsIn K mainGlobals "_law_upper" = some (some (.ref f11))) (l11 : K.lookup f11 = some ⟨oc11, od11, .func (PySem.W.fnOf "_law_upper" "_law_upper" (defArgs s__law_upper) (defBody s__law_upper) (defScope s__law_upper) .none kV11 dc11 pm11 an11 cd11 ct11), sl11⟩) (c11 : PySem.W.codeIn K cd11 "_law_upper" = true) (k11 : PySem.W.keepIn K (.ref f11) = true)
    (a12 : PySem.W.nsIn K mainGlobals "_law_plan" = some (some (.ref f12))) (l12 : K.lookup f12 = some ⟨oc12, od12, .func (PySem.W.fnOf "_law_plan" "_law_plan" (defArgs s__law_plan) (defBody s__law_plan) (defScope s__law_plan) .none kV12 dc12 pm12 an12 cd12 ct12), sl12⟩) (c12 : PySem.W.codeIn K cd12 "_law_plan" = true) (k12 : PySem.W.keepIn K (.ref f12) = true)
    (a13 : PySem.W.nsIn K mainGlobals "_law_hands" = some (some (.ref f13))) (l13 : K.lookup f13 = some ⟨oc13, od13, .func (PySem.W.fnOf "_law_hands" "_law_hands" (defArgs s__law_hands) (defBody s__law_hands) (defScope s__law_hands) .none kV13 dc13 pm13 an13 cd13 ct13), sl13⟩) (c13 : PySem.W.codeIn K cd13 "_law_hands" = true) (k13 : PySem.W.keepIn K (.ref f13) = true)
    (a14 : PySem.W.nsIn K mainGlobals "_law_groups" = some (some (.ref f14))) (l14 : K.lookup f14 = some ⟨oc14, od14, .func (PySem.W.fnOf "_law_groups" "_law_groups" (defArgs s__law_groups) (defBody s__law_groups) (defScope s__law_groups) .none kV14 dc14 pm14 an14 cd14 ct14), sl14⟩) (c14 : PySem.W.codeIn K cd14 "_law_groups" = true) (k14 : PySem.W.keepIn K (.ref f14) = true)
    (a15 : PySem.W.nsIn K mainGlobals "_law_turn" = some (some (.ref f15))) (l15 : K.lookup f15 = some ⟨oc15, od15, .func (PySem.W.fnOf "_law_turn" "_law_turn" (defArgs s__law_turn) (defBody s__law_turn) (defScope s__law_turn) .none kV15 dc15 pm15 an15 cd15 ct15), sl15⟩) (c15 : PySem.W.codeIn K cd15 "_law_turn" = true) (k15 : PySem.W.keepIn K (.ref f15) = true)
    (a16 : PySem.W.nsIn K mainGlobals "_law_is_even" = some (some (.ref f16))) (l16 : K.lookup f16 = some ⟨oc16, od16, .func (PySem.W.fnOf "_law_is_even" "_law_is_even" (defArgs s__law_is_even) (defBody s__law_is_even) (defScope s__law_is_even) .none kV16 dc16 pm16 an16 cd16 ct16), sl16⟩) (c16 : PySem.W.codeIn K cd16 "_law_is_even" = true) (k16 : PySem.W.keepIn K (.ref f16) = true)
    (a17 : PySem.W.nsIn K mainGlobals "_law_otherwise" = some (some (.ref f17))) (l17 : K.lookup f17 = some ⟨oc17, od17, .func (PySem.W.fnOf "_law_otherwise" "_law_otherwise" (defArgs s__law_otherwise) (defBody s__law_otherwise) (defScope s__law_otherwise) .none kV17 dc17 pm17 an17 cd17 ct17), sl17⟩) (c17 : PySem.W.codeIn K cd17 "_law_otherwise" = true) (k17 : PySem.W.keepIn K (.ref f17) = true)
    (a18 : PySem.W.nsIn K mainGlobals "_law_bent" = some (some (.ref f18))) (l18 : K.lookup f18 = some ⟨oc18, od18, .func (PySem.W.fnOf "_law_bent" "_law_bent" (defArgs s__law_bent) (defBody s__law_bent) (defScope s__law_bent) .none kV18 dc18 pm18 an18 cd18 ct18), sl18⟩) (c18 : PySem.W.codeIn K cd18 "_law_bent" = true) (k18 : PySem.W.keepIn K (.ref f18) = true)
    (a19 : PySem.W.nsIn K mainGlobals "law" = some (some (.ref f19))) (l19 : K.lookup f19 = some ⟨oc19, od19, .func (PySem.W.fnOf "law" "law" (defArgs s_law) (defBody s_law) (defScope s_law) .none kV19 dc19 pm19 an19 cd19 ct19), sl19⟩) (c19 : PySem.W.codeIn K cd19 "law" = true) (k19 : PySem.W.keepIn K (.ref f19) = true)
    (z0 : PySem.W.nsIn K mainGlobals "abs" = some none)
    (z1 : PySem.W.nsIn K mainGlobals "all" = some none)
    (z2 : PySem.W.nsIn K mainGlobals "bool" = some none)
    (z3 : PySem.W.nsIn K mainGlobals "int" = some none)
    (z4 : PySem.W.nsIn K mainGlobals "isinstance" = some none)
    (z5 : PySem.W.nsIn K mainGlobals "len" = some none)
    (z6 : PySem.W.nsIn K mainGlobals "max" = some none)
    (z7 : PySem.W.nsIn K mainGlobals "min" = some none)
    (z8 : PySem.W.nsIn K mainGlobals "range" = some none)
    (z9 : PySem.W.nsIn K mainGlobals "repr" = some none)
    (z10 : PySem.W.nsIn K mainGlobals "set" = some none)
    (z11 : PySem.W.nsIn K mainGlobals "str" = some none)
    (z12 : PySem.W.nsIn K mainGlobals "tuple" = some none) :
    ∃ fd : FuncData, (∀ (s : Shared) (v : Value), BindsTo s fd ⟨[v], []⟩ [("_law_script", v)]) ∧ ∀ base : Heap, K.In base → base.Ns mainGlobals mg → FnG l.prog w K mg base 29 fa fd ["_law_script"] (spLaw K) := by
  have e := hfa.symm.trans (PySem.W.mg_of X G a19)
  cases e
  refine ⟨PySem.W.fnOf "law" "law" (defArgs s_law) (defBody s_law) (defScope s_law) .none kV19 dc19 pm19 an19 cd19 ct19, fun s v => .of_eq rfl, fun base _ _ => ?_⟩
  exact ok_law (T := {
    f_hands_of := f0, d_hands_of := _, F_hands_of := fun_mk (st := s_hands_of) l0 c0 k0, m_hands_of := PySem.W.mg_of X G a0,
    f_all_in := f1, d_all_in := _, F_all_in := fun_mk (st := s_all_in) l1 c1 k1, m_all_in := PySem.W.mg_of X G a1,
    f_all_from := f2, d_all_from := _, F_all_from := fun_mk (st := s_all_from) l2 c2 k2, m_all_from := PySem.W.mg_of X G a2,
    f_member_turn := f3, d_member_turn := _, F_member_turn := fun_mk (st := s_member_turn) l3 c3 k3, m_member_turn := PySem.W.mg_of X G a3,
    f_is_even := f4, d_is_even := _, F_is_even := fun_mk (st := s_is_even) l4 c4 k4, m_is_even := PySem.W.mg_of X G a4,
    f_is_level := f5, d_is_level := _, F_is_level := fun_mk (st := s_is_level) l5 c5 k5, m_is_level := PySem.W.mg_of X G a5,
    f__law_hand := f6, d__law_hand := _, F__law_hand := fun_mk (st := s__law_hand) l6 c6 k6, m__law_hand := PySem.W.mg_of X G a6,
    f__law_take := f7, d__law_take := _, F__law_take := fun_mk (st := s__law_take) l7 c7 k7, m__law_take := PySem.W.mg_of X G a7,
    f__law_pick := f8, d__law_pick := _, F__law_pick := fun_mk (st := s__law_pick) l8 c8 k8, m__law_pick := PySem.W.mg_of X G a8,
    f__law_name := f9, d__law_name := _, F__law_name := fun_mk (st := s__law_name) l9 c9 k9, m__law_name := PySem.W.mg_of X G a9,
    f__law_lot := f10, d__law_lot := _, F__law_lot := fun_mk (st := s__law_lot) l10 c10 k10, m__law_lot := PySem.W.mg_of X G a10,
    f__law_upper := f11, d__law_upper := _, F__law_upper := fun_mk (st := s__law_upper) l11 c11 k11, m__law_upper := PySem.W.mg_of X G a11,
    f__law_plan := f12, d__law_plan := _, F__law_plan := fun_mk (st := s__law_plan) l12 c12 k12, m__law_plan := PySem.W.mg_of X G a12,
    f__law_hands := f13, d__law_hands := _, F__law_hands := fun_mk (st := s__law_hands) l13 c13 k13, m__law_hands := PySem.W.mg_of X G a13,
    f__law_groups := f14, d__law_groups := _, F__law_groups := fun_mk (st := s__law_groups) l14 c14 k14, m__law_groups := PySem.W.mg_of X G a14,
    f__law_turn := f15, d__law_turn := _, F__law_turn := fun_mk (st := s__law_turn) l15 c15 k15, m__law_turn := PySem.W.mg_of X G a15,
    f__law_is_even := f16, d__law_is_even := _, F__law_is_even := fun_mk (st := s__law_is_even) l16 c16 k16, m__law_is_even := PySem.W.mg_of X G a16,
    f__law_otherwise := f17, d__law_otherwise := _, F__law_otherwise := fun_mk (st := s__law_otherwise) l17 c17 k17, m__law_otherwise := PySem.W.mg_of X G a17,
    f__law_bent := f18, d__law_bent := _, F__law_bent := fun_mk (st := s__law_bent) l18 c18 k18, m__law_bent := PySem.W.mg_of X G a18,
    f_law := fa, d_law := _, F_law := fun_mk (st := s_law) l19 c19 k19, m_law := PySem.W.mg_of X G a19,
    z_abs := PySem.W.mg_none_of X G z0,
    z_all := PySem.W.mg_none_of X G z1,
    z_bool := PySem.W.mg_none_of X G z2,
    z_int := PySem.W.mg_none_of X G z3,
    z_isinstance := PySem.W.mg_none_of X G z4,
    z_len := PySem.W.mg_none_of X G z5,
    z_max := PySem.W.mg_none_of X G z6,
    z_min := PySem.W.mg_none_of X G z7,
    z_range := PySem.W.mg_none_of X G z8,
    z_repr := PySem.W.mg_none_of X G z9,
    z_set := PySem.W.mg_none_of X G z10,
    z_str := PySem.W.mg_none_of X G z11,
    z_tuple := PySem.W.mg_none_of X G z12
    })
end K54
open PySem PySem.W PyProof.Rows
set_option maxRecDepth 100000 in
set_option maxHeartbeats 0 in
theorem PySem.Challenge.cw_nearlocks_k54_even_plans_holds : PySem.Challenge.rw_nearlocks_k54_even_plans.Holds := by
  w_on; o_law; k_head; (case hw => w_witness2)
  k_fill
  refine NL.walk_g (l := PySem.Challenge.rw_nearlocks_k54_even_plans) (n := 63) (k := 29) (x := "_law_script") (sp := K54.spLaw) rfl (by decide) rfl ⟨rfl, by decide, by decide⟩ (fun w h Y => PySem.W.kIn_of Y) ?F ?P
  case P =>
    intro K H a ns hl hS
    exact ⟨a, ns, rfl, hS, hl, fun _ => rfl⟩
  case F =>
    intro w mg fa h KX G hmg
    refine' K54.all_mk KX G hmg ?a0 ?l0 ?c0 ?k0 ?a1 ?l1 ?c1 ?k1 ?a2 ?l2 ?c2 ?k2 ?a3 ?l3 ?c3 ?k3 ?a4 ?l4 ?c4 ?k4 ?a5 ?l5 ?c5 ?k5 ?a6 ?l6 ?c6 ?k6 ?a7 ?l7 ?c7 ?k7 ?a8 ?l8 ?c8 ?k8 ?a9 ?l9 ?c9 ?k9 ?a10 ?l10 ?c10 ?k10 ?a11 ?l11 ?c11 ?k11 ?a12 ?l12 ?c12 ?k12 ?a13 ?l13 ?c13 ?k13 ?a14 ?l14 ?c14 ?k14 ?a15 ?l15 ?c15 ?k15 ?a16 ?l16 ?c16 ?k16 ?a17 ?l17 ?c17 ?k17 ?a18 ?l18 ?c18 ?k18 ?a19 ?l19 ?c19 ?k19 ?z0 ?z1 ?z2 ?z3 ?z4 ?z5 ?z6 ?z7 ?z8 ?z9 ?z10 ?z11 ?z12
    (case a0 => k_is); (case l0 => k_is); (case c0 => k_is); (case k0 => k_is)
    (case a1 => k_is); (case l1 => k_is); (case c1 => k_is); (case k1 => k_is)
    (case a2 => k_is); (case l2 => k_is); (case c2 => k_is); (case k2 => k_is)
    (case a3 => k_is); (case l3 => k_is); (case c3 => k_is); (case k3 => k_is)
    (case a4 => k_is); (case l4 => k_is); (case c4 => k_is); (case k4 => k_is)
    (case a5 => k_is); (case l5 => k_is); (case c5 => k_is); (case k5 => k_is)
    (case a6 => k_is); (case l6 => k_is); (case c6 => k_is); (case k6 => k_is)
    (case a7 => k_is); (case l7 => k_is); (case c7 => k_is); (case k7 => k_is)
    (case a8 => k_is); (case l8 => k_is); (case c8 => k_is); (case k8 => k_is)
    (case a9 => k_is); (case l9 => k_is); (case c9 => k_is); (case k9 => k_is)
    (case a10 => k_is); (case l10 => k_is); (case c10 => k_is); (case k10 => k_is)
    (case a11 => k_is); (case l11 => k_is); (case c11 => k_is); (case k11 => k_is)
    (case a12 => k_is); (case l12 => k_is); (case c12 => k_is); (case k12 => k_is)
    (case a13 => k_is); (case l13 => k_is); (case c13 => k_is); (case k13 => k_is)
    (case a14 => k_is); (case l14 => k_is); (case c14 => k_is); (case k14 => k_is)
    (case a15 => k_is); (case l15 => k_is); (case c15 => k_is); (case k15 => k_is)
    (case a16 => k_is); (case l16 => k_is); (case c16 => k_is); (case k16 => k_is)
    (case a17 => k_is); (case l17 => k_is); (case c17 => k_is); (case k17 => k_is)
    (case a18 => k_is); (case l18 => k_is); (case c18 => k_is); (case k18 => k_is)
    (case a19 => k_is); (case l19 => k_is); (case c19 => k_is); (case k19 => k_is)
    (case z0 => k_is)
    (case z1 => k_is)
    (case z2 => k_is)
    (case z3 => k_is)
    (case z4 => k_is)
    (case z5 => k_is)
    (case z6 => k_is)
    (case z7 => k_is)
    (case z8 => k_is)
    (case z9 => k_is)
    (case z10 => k_is)
    (case z11 => k_is)
    (case z12 => k_is)

