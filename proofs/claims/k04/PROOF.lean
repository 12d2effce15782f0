import PyProof.Rows.All
import Wide.All
import OpenK.AllK
import Wide.FinOn
import HandS.CallLocal
import HandS.Evl
import HandS.ForMost
import HandS.IsInst
import HandS.More
import HandS.Star
import HandS.Style
import HandS.TupAny
import HandS.WrittenGet
import PySem.Challenge.RW_nearlocks_k04_hands_groups_and_paths
set_option Elab.async false
set_option linter.all false
set_option maxRecDepth 100000
set_option maxHeartbeats 4000000
/-! the ground: data of the heap, their kinds, what stays -/
namespace NL
open PySem L2 Evl

mutual
theorem dp_of {K : PySem.W.Frag} {H H' : Hp} (el : ∀ a xs, SqL K H a xs → SqL K H' a xs) (et : ∀ a xs, SqT K H a xs → SqT K H' a xs) : ∀ (d : PyData) (v : V), Dp K H v d → Dp K H' v d
  | .none, _, h => by cases h; exact .non
  | .bool b, _, h => by cases h; exact .bl b
  | .int i, _, h => by cases h; exact .int i
  | .str x, _, h => by cases h; exact .str x
  | .list ds, _, h => by
    cases h with
    | lst hs ha => exact .lst (el _ _ hs) (dpa_of el et ds _ ha)
  | .tuple ds, _, h => by
    cases h with
    | tup hs ha => exact .tup (et _ _ hs) (dpa_of el et ds _ ha)
  | .dict _, _, h => by cases h
theorem dpa_of {K : PySem.W.Frag} {H H' : Hp} (el : ∀ a xs, SqL K H a xs → SqL K H' a xs) (et : ∀ a xs, SqT K H a xs → SqT K H' a xs) : ∀ (ds : List PyData) (vs : List V), DpAll K H vs ds → DpAll K H' vs ds
  | [], _, h => by cases h; exact .nil
  | d :: ds, _, h => by
    cases h with
    | cons h1 h2 => exact .cons (dp_of el et d _ h1) (dpa_of el et ds _ h2)
end
theorem dp_mono {K : PySem.W.Frag} {H H' : Hp} {v : V} {d : PyData} (e : Ex H H') (h : Dp K H v d) : Dp K H' v d := dp_of (fun _ _ => ex_l e) (fun _ _ => ex_t e) d v h
theorem dpa_mono {K : PySem.W.Frag} {H H' : Hp} {vs : List V} {ds : List PyData} (e : Ex H H') (h : DpAll K H vs ds) : DpAll K H' vs ds := dpa_of (fun _ _ => ex_l e) (fun _ _ => ex_t e) ds vs h
theorem dpa_len {K : PySem.W.Frag} {H : Hp} : ∀ {vs : List V} {ds : List PyData}, DpAll K H vs ds → vs.length = ds.length
  | _, _, .nil => rfl
  | _, _, .cons _ t => by rw [List.length_cons, List.length_cons, dpa_len t]
theorem dpa_get {K : PySem.W.Frag} {H : Hp} : ∀ {vs : List V} {ds : List PyData} {i : Nat} {v : V}, DpAll K H vs ds → vs[i]? = some v → ∃ d, ds[i]? = some d ∧ Dp K H v d
  | _, _, _, _, .nil, e => by simp at e
  | _, _, 0, _, .cons r _, e => by simp at e; subst e; exact ⟨_, rfl, r⟩
  | _, _, i + 1, v, .cons _ t, e => by
    obtain ⟨d, h1, h2⟩ := dpa_get (i := i) (v := v) t (by simpa using e)
    exact ⟨d, by simpa using h1, h2⟩

/-! ### kinds -/
def tyN : PyData → String
  | .none => "NoneType" | .bool _ => "bool" | .int _ => "int" | .str _ => "str" | .list _ => "list" | .tuple _ => "tuple" | .dict _ => "dict"
theorem dp_ty {K : PySem.W.Frag} {H : Hp} {v : V} {d : PyData} (h : Dp K H v d) : TyX K H v (.type (tyN d)) := by
  cases h with
  | non => exact .base .non
  | bl b => exact .base (.bl b)
  | int i => exact .base (.int i)
  | str x => exact .base (.str x)
  | lst hs _ =>
    rcases hs with (h | ⟨o, h⟩) | ⟨o, its, n, h, c, _⟩
    · exact .base (.lst h)
    · exact .base (.frz h)
    · exact .kList h c
  | tup hs _ =>
    rcases hs with (h | ⟨o, h⟩) | ⟨o, its, n, h, c, _⟩
    · exact .base (.tup h)
    · exact .fTuple h
    · exact .kTuple h c
def isIntB : PyData → Bool
  | .int _ => true | .bool _ => true | _ => false
def isBoolB : PyData → Bool
  | .bool _ => true | _ => false
def isTupB : PyData → Bool
  | .tuple _ => true | _ => false
def isStrB : PyData → Bool
  | .str _ => true | _ => false
theorem kt_int (d : PyData) : kitB (tyN d) "int" = some (isIntB d) := by
  cases d
  · exact (by decide +kernel : kitB "NoneType" "int" = some false)
  · exact (by decide +kernel : kitB "bool" "int" = some true)
  · exact (by decide +kernel : kitB "int" "int" = some true)
  · exact (by decide +kernel : kitB "str" "int" = some false)
  · exact (by decide +kernel : kitB "list" "int" = some false)
  · exact (by decide +kernel : kitB "tuple" "int" = some false)
  · exact (by decide +kernel : kitB "dict" "int" = some false)
theorem kt_bool (d : PyData) : kitB (tyN d) "bool" = some (isBoolB d) := by
  cases d
  · exact (by decide +kernel : kitB "NoneType" "bool" = some false)
  · exact (by decide +kernel : kitB "bool" "bool" = some true)
  · exact (by decide +kernel : kitB "int" "bool" = some false)
  · exact (by decide +kernel : kitB "str" "bool" = some false)
  · exact (by decide +kernel : kitB "list" "bool" = some false)
  · exact (by decide +kernel : kitB "tuple" "bool" = some false)
  · exact (by decide +kernel : kitB "dict" "bool" = some false)
theorem kt_tuple (d : PyData) : kitB (tyN d) "tuple" = some (isTupB d) := by
  cases d
  · exact (by decide +kernel : kitB "NoneType" "tuple" = some false)
  · exact (by decide +kernel : kitB "bool" "tuple" = some false)
  · exact (by decide +kernel : kitB "int" "tuple" = some false)
  · exact (by decide +kernel : kitB "str" "tuple" = some false)
  · exact (by decide +kernel : kitB "list" "tuple" = some false)
  · exact (by decide +kernel : kitB "tuple" "tuple" = some true)
  · exact (by decide +kernel : kitB "dict" "tuple" = some false)
theorem kt_str (d : PyData) : kitB (tyN d) "str" = some (isStrB d) := by
  cases d
  · exact (by decide +kernel : kitB "NoneType" "str" = some false)
  · exact (by decide +kernel : kitB "bool" "str" = some false)
  · exact (by decide +kernel : kitB "int" "str" = some false)
  · exact (by decide +kernel : kitB "str" "str" = some true)
  · exact (by decide +kernel : kitB "list" "str" = some false)
  · exact (by decide +kernel : kitB "tuple" "str" = some false)
  · exact (by decide +kernel : kitB "dict" "str" = some false)

section
variable {K : PySem.W.Frag} {σ : L2.St} {H : Hp} {ta tb te : TE} {x v : V} {d : PyData}
theorem ev_isi {T : String} {b : Bool} (ha : Ev ta σ H x) (hd : Dp K H x d) (hk : kitB (tyN d) T = some b) : Ev (tCB (rIsi K) (tCons ta (tCons (tC (.ty T)) tNil))) σ H (.bl b) := fun H1 e Q q =>
  ha H1 e _ fun H2 e2 => ⟨x, .ty T, _, _, b, rfl, .ty T, dp_ty (dp_mono (e.trans e2) hd), kit_ty hk, q H2 e2⟩
theorem ev_lenT {p : Addr} {xs : List V} (ha : Ev ta σ H (.ref p)) (h : SqT K H p xs) : Ev (tCB (rLenS K) (tCons ta tNil)) σ H (.int (xs.length : Int)) := fun H1 e Q q =>
  ha H1 e _ fun H2 e2 => ⟨p, xs, rfl, Or.inr (ex_t (e.trans e2) h), q H2 e2⟩
theorem ev_ixT {p : Addr} {xs : List V} {i : Int} (ha : Ev ta σ H (.ref p)) (hb : Ev tb σ H (.int i)) (h : SqT K H p xs) (hi : atI xs i = some v) : Ev (tOp (rIxT K) ta tb) σ H v := ev_op ha hb (rv_ixT h hi)
theorem ev_isN (ha : Ev ta σ H x) : Ev (tIsN ta) σ H (.bl (decide (x = .non))) := fun H1 e Q q => ha H1 e _ fun H2 e2 => q H2 e2
theorem ev_eq {y : V} (ha : Ev ta σ H x) (hb : Ev tb σ H y) (h : scal x y = true) : Ev (tOp rEq ta tb) σ H (.bl (decide (x = y))) := ev_op ha hb (rv_eq h)
theorem ev_ne {y : V} (ha : Ev ta σ H x) (hb : Ev tb σ H y) (h : scal x y = true) : Ev (tOp rNe ta tb) σ H (.bl (!decide (x = y))) := ev_op ha hb (rv_ne h)
theorem ev_I0 {g : Int → Int → V} {i j : Int} (ha : Ev ta σ H (.int i)) (hb : Ev tb σ H (.int j)) : Ev (tOp (rI0 g) ta tb) σ H (g i j) := ev_op ha hb rv_I0
theorem ev_I {C : Int → Int → Prop} {g : Int → Int → V} {i j : Int} (hc : C i j) (ha : Ev ta σ H (.int i)) (hb : Ev tb σ H (.int j)) : Ev (tOp (rI C g) ta tb) σ H (g i j) := ev_op ha hb (rv_I hc)
theorem ev_allN {bs : List Bool} (ha : EvL ta σ H (bs.map V.bl)) : Ev (tCB (rAll K) (tCons ta tNil)) σ H (.bl (bs.all id)) := fun H1 e Q q =>
  ha H1 e _ fun p H2 _ e2 h2 => ⟨p, bs, rfl, sq_of h2, q H2 e2⟩
/-- a comprehension over a tuple, whose turns give or skip as told -/
theorem el_lcT {a : Addr} {xs : List V} {tl : TE} {tt : TT} {j : Nat} {vs : List Nat} (f : Nat → Bool) (g : Nat → V) (src : Ev tl σ H (.ref a)) (held : SqT K H a xs) (few : xs.length ≤ 40000) (clean : ∀ x, wipe ((wipe σ vs).set j (some x)) vs = wipe σ vs)
    (test : ∀ (i : Nat) (x : V) H1, Ex H H1 → xs[i]? = some x → EvT tt ((wipe σ vs).set j (some x)) H1 (f i)) (give : ∀ (i : Nat) (x : V) H1, Ex H H1 → xs[i]? = some x → f i = true → Ev te ((wipe σ vs).set j (some x)) H1 (g i)) :
    EvL (tLc (iTup K tl) (gName j) tt te vs) σ H (given xs.length f g) := by
  intro H0 e0 Q next
  refine src H0 e0 _ fun H1 e1 => ?_
  have e01 : Ex H H1 := e0.trans e1
  refine ⟨a, rfl, ⟨xs, ex_t e01 held⟩, fun made fresh => ?_⟩
  refine lc_tup (xs := xs) (Cw H1 f g made) ⟨fresh, Ex.new fresh, upd_same⟩ ?stays ?turn ?done
  case stays =>
    intro i H' _ inv
    exact ex_t (e01.trans inv.2.1) held
  case turn =>
    intro i x H' at_i inv
    have small : i < 50000 := by
      have := (List.getElem?_eq_some_iff.mp at_i).1
      omega
    exact ⟨clean x, cw_turn inv small (test i x H1 e01 at_i) (give i x H1 e01 at_i)⟩
  case done =>
    intro H' inv
    exact next made H' (fresh_back e1 inv.1) (e1.trans inv.2.1) inv.2.2
end
theorem s_next {D : Ends} {σ : L2.St} {H : Hp} (h : D.nx σ H) : tNext D σ H := h
theorem s_seq {D : Ends} {t u : TS} {σ : L2.St} {H : Hp} (h : t { D with nx := u D } σ H) : tSeq t u D σ H := h
theorem q_asgP {te : TE} {tz : TS} {D : Ends} {σ : L2.St} {H : Hp} {i : Nat} (h : te σ H fun v H1 => tz D (σ.set i (some v)) H1) : tSeq (tAsg te (gName i)) tz D σ H := h
theorem s_retP {te : TE} {D : Ends} {σ : L2.St} {H : Hp} (h : te σ H fun v H1 => D.rt v H1) : tRet te D σ H := h
theorem q_dropP {te : TE} {tz : TS} {D : Ends} {σ : L2.St} {H : Hp} (h : te σ H fun v H1 => tz D σ H1) : tSeq (tDrop te) tz D σ H := h
theorem et_yes {σ : L2.St} {H : Hp} : EvT tYes σ H true := fun H1 _ _ q => q H1 (Ex.refl H1)
theorem given_all (n : Nat) (g : Nat → V) : given n (fun _ => true) g = (List.range n).map g := by
  unfold given
  rw [List.filter_eq_self.mpr (fun _ _ => rfl)]

/-! ### arguments without a star, whatever the scope -/
def noStar : Expr → Bool
  | .Starred _ _ => false
  | _ => true
theorem star1 {e : Expr} {es : List Expr} {env : Env} (h : noStar e = true) : starEach (e :: es) env = (false, eval e env) :: starEach es env := by
  cases e <;> first | rfl | cases h
theorem starAll {pos : Pos} {env : Env} : ∀ {es : List Expr}, es.all noStar = true → (backTo pos (starEach es env)).any (·.1) = false
  | [], _ => rfl
  | e :: es, h => by
    rw [List.all_cons, Bool.and_eq_true] at h
    rw [star1 h.1]
    have := starAll (pos := pos) (env := env) h.2
    unfold backTo at this ⊢
    simpa using this
/-! ### rules by a written part that is named -/
section
variable {X : Cx} {K : PySem.W.Frag}
theorem lenK (h : X.K = K) : CallR X (.builtin "len") (rLenS K) := by subst h; exact call_len_seq
theorem isiK (h : X.K = K) : CallR X (.builtin "isinstance") (rIsi K) := by subst h; exact call_isi
theorem allK (h : X.K = K) (hc : X.calm = true) : CallR X (.builtin "all") (rAll K) := by subst h; exact cr_all hc
theorem ixTK (h : X.K = K) : IxR X (rIxT K) := by subst h; exact ix_tup
theorem ixLK (h : X.K = K) : IxR X (rIxL K) := by subst h; exact ix_list
theorem catAK (h : X.K = K) : OpR X (binaryOp .Add) (rCatA K) := by subst h; exact op_catA
theorem slAK (h : X.K = K) : SlR X (rSlA K) := by subst h; exact sl_tupA
theorem eqDK (h : X.K = K) (hu : X.A.units + 64 < cLine) : OpR X (compareOp .Eq) (rEqD K) := by subst h; exact op_eqD hu
theorem neDK (h : X.K = K) (hu : X.A.units + 64 < cLine) : OpR X (compareOp .NotEq) (rNeD K) := by subst h; exact op_neD hu
end

/-! ### a dict of the module, asked by any text -/
def KTab (K : PySem.W.Frag) (w : World) (a : Addr) (f : Str → Option Value) : Prop :=
  ∃ es n, K.lookup a = some ⟨.type "dict", none, .dict es n, #[]⟩ ∧ PySem.W.KeysLit w.params es.toList ∧ (a == sysModules) = false ∧ ∀ z, PySem.W.nsIn K a z = some (f z)
def rNotInK (K : PySem.W.Frag) (w : World) : R2 := fun x y H Q => ∃ p z f, x = .str z ∧ y = .ref p ∧ KTab K w p f ∧ Q (.bl (!(f z).isSome)) H
section
variable {X : Cx}
theorem op_notInK : OpR X (compareOp .NotIn) (rNotInK X.K X.w) := by
  intro pins s σ H x y v u Q I rx ry h
  obtain ⟨p, z, f, rfl, rfl, ⟨es, n, hl, hk, low, hf⟩, q⟩ := h
  obtain rfl : u = Value.ref p := ry
  obtain ⟨t, rfl⟩ := rx
  have hm := PySem.W.mapOf_K (prog := X.prog) (w := X.w) I.kIn hl hk
  refine wpAny_notIn_of (strKind_is X.prog X.w z t) low hm ?_
  rw [PySem.W.find_K hl (hf z)]
  exact ⟨.bl _, H, I.tok _, rfl, q⟩
end
theorem rv_ixD {K : PySem.W.Frag} {w : World} {H : Hp} {p : Addr} {z : Str} {f : Str → Option Value} {a : Addr} (h : KTab K w p f) (e : f z = some (.ref a)) : RV (rIxD K w) (.ref p) (.str z) H (.ref a) := fun H1 _ _ q => by
  obtain ⟨es, n, hl, hk, _, hf⟩ := h
  exact ⟨p, z, .ref a, rfl, rfl, ⟨es, n, .ref a, hl, hk, by rw [hf z, e], rfl⟩, q H1 (Ex.refl H1)⟩
theorem rv_notInK {K : PySem.W.Frag} {w : World} {H : Hp} {p : Addr} {z : Str} {f : Str → Option Value} (h : KTab K w p f) : RV (rNotInK K w) (.str z) (.ref p) H (.bl (!(f z).isSome)) := fun H1 _ _ q => ⟨p, z, f, rfl, rfl, h, q H1 (Ex.refl H1)⟩
end NL

/-! the drawing hand: a list of a list of cells and a seed; what stays while it draws -/
namespace NL
open PySem L2 Evl
structure HandAt (H : Hp) (h l : Addr) (cs : List Int) (sd : Int) : Prop where
  hh : H h = some (.lst [.ref l, .int sd])
  hl : H l = some (.lst (cs.map V.int))
  lo : 0 ≤ sd
  hi : sd < 2305843009213693951
  few : cs.length ≤ 63
  pos : ∀ c ∈ cs, 0 ≤ c
def Hand (H : Hp) (h l : Addr) : Prop := ∃ cs sd, HandAt H h l cs sd
def Kp (h l : Addr) (H H' : Hp) : Prop := ∀ a o, a ≠ h → a ≠ l → H a = some o → H' a = some o
theorem Kp.refl (h l : Addr) (H : Hp) : Kp h l H H := fun _ _ _ _ e => e
theorem Kp.trans {h l : Addr} {H H1 H2 : Hp} (a : Kp h l H H1) (b : Kp h l H1 H2) : Kp h l H H2 := fun x o n m e => b x o n m (a x o n m e)
theorem Kp.ex {h l : Addr} {H H1 : Hp} (a : Ex H H1) : Kp h l H H1 := fun x o _ _ e => a x o e
theorem Kp.put {h l : Addr} {H H1 : Hp} {o : HO} {a : Addr} (k : Kp h l H H1) (ha : a = h ∨ a = l) : Kp h l H (upd H1 a o) := fun x u n m e => by
  have hx : x ≠ a := by rcases ha with rfl | rfl <;> assumption
  rw [upd_ne hx]
  exact k x u n m e
theorem HandAt.ne {H : Hp} {h l : Addr} {cs : List Int} {sd : Int} (A : HandAt H h l cs sd) : h ≠ l := by
  intro e
  subst e
  have e2 := A.hh.symm.trans A.hl
  cases cs with
  | nil => cases e2
  | cons c r => cases e2
theorem Hand.ne {H : Hp} {h l : Addr} (A : Hand H h l) : h ≠ l := by
  obtain ⟨cs, sd, A⟩ := A
  exact A.ne
theorem HandAt.ex {H H' : Hp} {h l : Addr} {cs : List Int} {sd : Int} (A : HandAt H h l cs sd) (e : Ex H H') : HandAt H' h l cs sd := ⟨e _ _ A.hh, e _ _ A.hl, A.lo, A.hi, A.few, A.pos⟩
theorem Hand.ex {H H' : Hp} {h l : Addr} (A : Hand H h l) (e : Ex H H') : Hand H' h l := by
  obtain ⟨cs, sd, A⟩ := A
  exact ⟨cs, sd, A.ex e⟩
theorem Hand.fresh {H : Hp} {h l p : Addr} (A : Hand H h l) (n : H p = none) : p ≠ h ∧ p ≠ l := by
  obtain ⟨cs, sd, A⟩ := A
  constructor
  · intro e
    subst e
    rw [A.hh] at n
    cases n
  · intro e
    subst e
    rw [A.hl] at n
    cases n
theorem Hand.off {H : Hp} {h l p : Addr} {o : HO} (A : Hand H h l) (n : H p = some o) (no : ∀ xs, o ≠ .lst xs) : p ≠ h ∧ p ≠ l := by
  obtain ⟨cs, sd, A⟩ := A
  constructor
  · intro e
    subst e
    rw [A.hh] at n
    cases n
    exact no _ rfl
  · intro e
    subst e
    rw [A.hl] at n
    cases n
    exact no _ rfl
theorem kp_tup {H H' : Hp} {h l a : Addr} {xs : List V} (A : Hand H h l) (k : Kp h l H H') (e : H a = some (.tup xs)) : H' a = some (.tup xs) := by
  obtain ⟨n, m⟩ := A.off e (fun _ z => by cases z)
  exact k a _ n m e
/-- what is new lies beside the hand -/
theorem Hand.new {H : Hp} {h l p : Addr} {o : HO} (A : Hand H h l) (n : H p = none) : Hand (upd H p o) h l := A.ex (Ex.new n)
theorem Hand.upd {H : Hp} {h l p : Addr} {o : HO} (A : Hand H h l) (n : p ≠ h) (m : p ≠ l) : Hand (upd H p o) h l := by
  obtain ⟨cs, sd, A⟩ := A
  exact ⟨cs, sd, by rw [upd_ne (Ne.symm n)]; exact A.hh, by rw [upd_ne (Ne.symm m)]; exact A.hl, A.lo, A.hi, A.few, A.pos⟩

/-! ### lists of ints compared with [] -/
theorem dpa_ints {K : PySem.W.Frag} {H : Hp} : ∀ ns : List Int, DpAll K H (ns.map V.int) (ns.map PyData.int)
  | [] => .nil
  | n :: r => .cons (.int n) (dpa_ints r)
theorem lay_ints : ∀ ns : List Int, PyData.canLayAll0 (ns.map PyData.int) = true
  | [] => by simp [PyData.canLayAll0]
  | n :: r => by simp [PyData.canLayAll0, PyData.canLay0, lay_ints r]
theorem deep_ints : ∀ ns : List Int, PyData.depthAll (ns.map PyData.int) = 0
  | [] => by simp [PyData.depthAll]
  | n :: r => by simp [PyData.depthAll, PyData.depth, deep_ints r]
theorem shaped_ints (ns : List Int) : SeqAt.shaped (.list (ns.map PyData.int)) = true := by
  unfold SeqAt.shaped
  simp [PyData.canLay0, lay_ints, PyData.depth, deep_ints]
theorem eqv_nil (ds : List PyData) : PyData.eqvAll ds [] = ds.isEmpty := by
  cases ds <;> simp [PyData.eqvAll]
theorem ev_neNil {K : PySem.W.Frag} {σ : L2.St} {H : Hp} {ta : TE} {l : Addr} {cs : List Int} (ha : Ev ta σ H (.ref l)) (hl : H l = some (.lst (cs.map V.int))) : Ev (tOp (rNeD K) ta (tLst tNil)) σ H (.bl (!cs.isEmpty)) :=
  ev_opL (xs := []) ha (el_lst ea_nil (by decide)) fun p H1 hp e1 H2 e2 Q q => ⟨.list (cs.map PyData.int), .list [], .lst (sq_of (e2 _ _ (e1 _ _ hl))) (dpa_ints cs), .lst (sq_of (e2 _ _ hp)) .nil, shaped_ints cs, by decide +kernel, by
    have e : PyData.eqv (.list (cs.map PyData.int)) (.list []) = cs.isEmpty := by
      simp only [PyData.eqv, eqv_nil]
      cases cs <;> rfl
    rw [e]
    exact q H2 (Ex.refl H2)⟩

/-! ### slices of a list of ints, from its front -/
theorem el_cut {K : PySem.W.Frag} {σ : L2.St} {H : Hp} {ta : TE} {a : Addr} {xs : List V} {n : Int} (ha : Ev ta σ H (.ref a)) (hs : SqL K H a xs) : EvL (tSl (rSlL K) ta tNoPart (tPart (tC (.int n)))) σ H (cutV xs none (some n)) := fun H1 e Q q =>
  ha H1 e _ fun H2 e2 => ⟨n, rfl, a, xs, rfl, ex_l (e.trans e2) hs, fun p hp => q p _ (fresh_back e2 hp) (e2.trans (Ex.new hp)) upd_same⟩
theorem cut_ints (ns : List Int) (n : Int) : ∃ ms : List Int, cutV (ns.map V.int) none (some n) = ms.map V.int ∧ ms.length ≤ ns.length := by
  refine ⟨(ns.drop (HT.sIx (ns.map V.int).length 0 none)).take (HT.sIx (ns.map V.int).length (ns.map V.int).length (some n) - HT.sIx (ns.map V.int).length 0 none), ?_, ?_⟩
  · unfold cutV
    rw [List.map_take, List.map_drop]
  · rw [List.length_take, List.length_drop]
    omega
end NL

/-! defs that are called where no text of a heap's thing is being made: what repr asks for -/
namespace NL
open PySem PySem.Spec PyProof.Rows L2 Evl
/-- the promise of a def, kept wherever no repr is under way -/
structure FnG (P : Program) (w : World) (K : PySem.W.Frag) (mg : Str → Option Value) (base : Heap) (k : Nat) (f : Addr) (fd : FuncData) (ps : List Str) (sp : Sp) : Prop where
  arity : ∀ xs H Q E, sp xs H Q E → xs.length = ps.length
  go : ∀ (A : Around) (envs : List Env) (st : Shared) (H : Hp) (ar : Args) (vals : List Value) (xs : List V) (Q : VK) (E : XK), A.guards = some [] → Room k A → Env0 P w K mg base A envs st H → BindsTo st fd ar (ps.zip vals) → Vals xs vals → sp xs H Q E →
    codeAny (model P w) A (.call (.ref f) ar) (CR CX0 envs P w H st Q E) st
section
variable {P : Program} {w : World} {K : PySem.W.Frag} {mg : Str → Option Value} {base : Heap} {k : Nat} {f : Addr} {fd : FuncData} {ps : List Str} {sp : Sp}
theorem FnG.of (F : FnOk P w K mg base CX0 k f fd ps sp) : FnG P w K mg base k f fd ps sp := ⟨F.len, fun A envs st H ar vals xs Q E _ room => F.run A envs st H ar vals xs Q E room⟩
theorem FnG.up {j : Nat} (F : FnG P w K mg base k f fd ps sp) (h : k ≤ j) : FnG P w K mg base j f fd ps sp := ⟨F.arity, fun A envs st H ar vals xs Q E g room => F.go A envs st H ar vals xs Q E g (room.mono h)⟩
/-- a def of the text, by its body -/
theorem fun_g {x qual : Str} {st : Stmt} {N : List Str} (F : Fun K x qual st f fd) (S : FnScope N ps (defScope st)) (arity : ∀ xs H Q E, sp xs H Q E → xs.length = ps.length)
    (body : ∀ (cdv : Value) (A : Around) (outer : List Env) (s : Shared) (H : Hp) (vs : List V) (Q : VK) (E : XK), A.guards = some [] → Room k (A.deeper (PyProof.Rows.envOfC qual (defScope st) s.heap.objs.size f cdv)) → sp vs H Q E →
      ∃ t, PSs (cxOf CX0 P w K mg base N qual (defScope st) f cdv A outer s H E).nox (defBody st) t ∧ t { nx := fun _ H' => Q .non H', rt := Q } (start N vs) H) : FnG P w K mg base (k + 1) f fd ps sp := by
  obtain ⟨oc, od, kV, doc, pm, an, cdv, ct, osl, hfd, look, code⟩ := F.ex
  subst hfd
  constructor
  · exact arity
  intro A envs s H ar vals xs Q E quiet room env0 binds rel promise
  have stays : ∀ b o, base.get? b = some o → s.heap.get? b = some o := fun b o e => (env0.bs b o e).1
  have kin : K.In s.heap := env0.mod.kin.keeps stays
  have nolim : s.heap.NoLimit := env0.mod.nolimit.keeps stays
  obtain ⟨t, walk, ends⟩ := body cdv A envs s H xs Q E quiet (room.deeper _) promise
  refine codeAny_call_function room.depth (kin _ _ look) rfl S.co S.gen rfl (PySem.W.codeRec_of kin code) (binds _ _ _ _ ?_)
  refine wpAny_newFunctionEnv_cells S.kind ?kinds fun env henv s1 made => ?_
  case kinds =>
    intro ⟨n, v⟩ mem
    cases S.par n (List.of_mem_zip mem).1 with
    | inl loc => exact Or.inl loc
    | inr cell => exact Or.inr ⟨cell, PySem.W.cellsFrom_some _ _ _ (Or.inl cell)⟩
  subst henv
  refine ⟨nolim.keeps made.toInCall.keep, codeAny_func ?_⟩
  refine wpAny_mono (walk.nox.run [] s1 (start N xs) H _ (inv_start S room.hd env0 (arity _ _ _ _ promise) rel made) ends) (fun flow s' out => ?_) fun e s' out => out
  match flow, out with
  | .ret u, out =>
    obtain ⟨v, σ', H', inv, ru, q⟩ := out
    exact ⟨v, H', inv.os, inv.bare, inv.base, inv.hok, ru, q⟩
  | .next, out =>
    obtain ⟨σ', H', inv, q⟩ := out
    exact ⟨V.non, H', inv.os, inv.bare, inv.base, inv.hok, rfl, q⟩
  | .brk, out => exact out.elim fun _ h => h.elim fun _ h => h.2.elim
  | .cont, out => exact out.elim fun _ h => h.elim fun _ h => h.2.elim
end
section
variable {X : Cx} {k : Nat} {f : Addr} {fd : FuncData} {ps : List Str} {sp : Sp} {x : Str} {p pos : Pos} {e : Expr} {es : List Expr} {t : TA}
/-- f(e, ..) where no repr is under way -/
theorem pe_callG (F : FnG X.prog X.w X.K X.mg X.base k f fd ps sp) (quiet : X.A.guards = some []) (hr : Room k X.A) (hg : Gl X x) (hm : X.mg x = some (.ref f)) (hk : PySem.W.keepIn X.K (.ref f) = true) (hb : Binds X.K fd ps []) (ha : PA X (e :: es) t)
    (hdb : (x == ("__debug__" : Str)) = false := by decide) (he : noStar e = true := by rfl) (hes : es.all noStar = true := by rfl) : PE X (.Call (.Name x p) (e :: es) [] pos) (tCall sp [] E0 t) := by
  constructor
  intro pins s σ H Q I reading
  refine wpAny_Call_Name_kw (ld_glob I hg hm ?_ hdb)
  refine PySem.W.callWith_K (h₀ := X.base) I.ok.mod.kin hk (thn (ha.run pos pins s σ H _ I reading) fun us s1 got => ?_) (star1 he) (starAll hes)
  obtain ⟨vs, H1, I1, rel, promise⟩ := got
  rw [List.append_nil] at promise
  refine ⟨I1.kIn, ?_⟩
  have len : us.length = ps.length := by
    rw [← rel.length]
    exact F.arity _ _ _ _ promise
  have bd := hb s1 us I1.kIn (by rw [List.append_nil]; exact len)
  rw [List.append_nil] at bd
  refine wpAny_call (codeAny_mono (F.go X.A X.stack s1 H1 ⟨us, []⟩ us vs Q E0 quiet hr I1.env0 bd rel promise) fun r s' out => ?_)
  match r, out with
  | .ok (.ret u), out => exact I1.after out
  | .ok .next, out => exact out.elim
  | .ok .brk, out => exact out.elim
  | .ok .cont, out => exact out.elim
  | .error _, out => exact out.elim
end
/-! ### the law's own call -/
section
variable {P : Program} {w : World} {K : PySem.W.Frag} {mg mb : Str → Option Value} {k : Nat} {fa a : Addr} {fd : FuncData} {x : Str} {sp : Sp} {s : Shared} {vals : List Value} {ns : List Int}
/-- from an abstract heap that tracks the script at most -/
theorem law_from (kin : K.In s.heap) (glob : s.heap.Ns mainGlobals mg) (blt : s.heap.Ns builtinsNs mb) (boot : ∀ x : Str, x ≠ "__name__" → mb x = bootBuiltins x) (nolim : s.heap.NoLimit) (gens : s.gens = #[])
    (script : s.heap.get? a = some { cls := .type "list", data := .seq vals.toArray }) (room : Room k callerA) (F : ∀ base : Heap, K.In base → base.Ns mainGlobals mg → FnG P w K mg base k fa fd [x] sp)
    (bind : ∀ (s : Shared) (u : Value), BindsTo s fd ⟨[u], []⟩ [(x, u)]) (H : Hp) (only : Only H) (promise : sp [.ref a] H (fun v _ => v = .bl true) E0) (hok : HOk P w H s.heap) (just : ∀ b, H b ≠ none → b = a) (off : H a ≠ none → K.lookup a = none) :
    codeAny (model P w) callerA (.call (.ref fa) ⟨[.ref a], []⟩) (fun r s' => r = .ok (.ret (.bool true)) ∧ OldK s.heap s'.heap ∧ s'.os = s.os ∧ AllBare s'.gens) s := by
  have free : ∀ {b : Addr} {o : Obj}, s.heap.get? b = some o → (∀ its n, o.data ≠ .seq its n) → H b = none := by
    intro b o e nseq
    cases hb : H b with
    | none => rfl
    | some u =>
      exfalso
      have eb := just b (by rw [hb]; exact fun z => by cases z)
      subst eb
      rw [script] at e
      cases e
      exact nseq _ _ rfl
  have ns' : ∀ {b : Addr} {m : Str → Option Value}, s.heap.Ns b m → (hidT s.heap H).Ns b m := by
    intro b m h
    obtain ⟨o, es, ep, e, d, r⟩ := h
    exact ⟨o, es, ep, hidT_get e (free e (fun its n z => by rw [d] at z; cases z)), d, r⟩
  have kin' : K.In (hidT s.heap H) := by
    intro b o e
    refine hidT_get (kin b o e) ?_
    cases hb : H b with
    | none => rfl
    | some u =>
      exfalso
      have eb := just b (by rw [hb]; exact fun z => by cases z)
      subst eb
      rw [off (by rw [hb]; exact fun z => by cases z)] at e
      cases e
  have env0 : Env0 P w K mg (hidT s.heap H) callerA [] s H := by
    refine ⟨rfl, ⟨kin', ns' glob, ⟨mb, ns' blt, boot⟩, ?_⟩, fun b o e => of_hidT e, Nat.le_of_eq (hidT_size _ _), trivial, fun b hb => ?_, hok, .of_eq gens⟩
    · obtain ⟨mc, h1, h2⟩ := nolim
      exact ⟨mc, ns' h1, h2⟩
    · exact absurd (show b ∈ ([] : List Addr) from hb) (by simp)
  have run := (F _ kin' (ns' glob)).go callerA [] s H ⟨[.ref a], []⟩ [.ref a] [.ref a] _ _ rfl room env0 (bind s (.ref a)) (.cons rfl .nil) promise
  refine codeAny_mono run fun r s' out => ?_
  match r, out with
  | .error _, out => exact out.elim
  | .ok .next, out => exact out.elim
  | .ok .brk, out => exact out.elim
  | .ok .cont, out => exact out.elim
  | .ok (.ret u), out =>
    obtain ⟨v, H', os, bare, un, hok', ru, hv⟩ := out
    have ev : v = .bl true := hv
    subst ev
    have eu : u = Value.bool true := ru
    subst eu
    refine ⟨rfl, OldK.of_keep fun b o e => ?_, os, bare⟩
    cases hb : H b with
    | none => exact un.keep b o e hb (fun z => absurd (show b ∈ ([] : List Addr) from z) (by simp)) (by simp)
    | some q =>
      cases only b with
      | inl z =>
        rw [hb] at z
        cases z
      | inr z =>
        obtain ⟨ob, xs, z⟩ := z
        have was := (hok b _ z).1
        have now := (hok' b _ (un.frzs b ob _ z)).1
        rw [e] at was
        cases was
        exact now
theorem law_g (kin : K.In s.heap) (glob : s.heap.Ns mainGlobals mg) (blt : s.heap.Ns builtinsNs mb) (boot : ∀ x : Str, x ≠ "__name__" → mb x = bootBuiltins x) (nolim : s.heap.NoLimit) (gens : s.gens = #[])
    (script : s.heap.get? a = some { cls := .type "list", data := .seq vals.toArray }) (whole : PyProof.Rows.IntsAre vals ns) (few : ns.length ≤ sizeLine) (room : Room k callerA) (F : ∀ base : Heap, K.In base → base.Ns mainGlobals mg → FnG P w K mg base k fa fd [x] sp)
    (bind : ∀ (s : Shared) (u : Value), BindsTo s fd ⟨[u], []⟩ [(x, u)]) (promise : ∀ H : Hp, Only H → SqL K H a (ns.map V.int) → sp [.ref a] H (fun v _ => v = .bl true) E0) :
    codeAny (model P w) callerA (.call (.ref fa) ⟨[.ref a], []⟩) (fun r s' => r = .ok (.ret (.bool true)) ∧ OldK s.heap s'.heap ∧ s'.os = s.os ∧ AllBare s'.gens) s := by
  have rel := vals_ints whole
  have many := whole.length
  cases own : K.lookup a with
  | some o =>
    have e := kin a o own
    rw [script] at e
    cases e
    have only : Only (fun _ => none) := fun _ => Or.inl rfl
    refine law_from kin glob blt boot nolim gens script room F bind (fun _ => none) only (promise _ only ?_) (fun b u z => ?_) (fun b z => absurd rfl z) (fun z => absurd rfl z)
    · exact Or.inr ⟨_, vals.toArray, _, own, rfl, rfl, rfl, by rw [List.size_toArray, many]; exact few, by simpa using rel⟩
    · exact absurd (show (none : Option HO) = some u from z) (fun z => by cases z)
  | none =>
    have at_a : ∀ {b : Addr}, b = a → (fun b => if b = a then some (HO.frz { cls := .type "list", data := .seq vals.toArray } (.lst (ns.map V.int))) else none) b = some (HO.frz { cls := .type "list", data := .seq vals.toArray } (.lst (ns.map V.int))) := fun h => if_pos h
    have off_a : ∀ {b : Addr}, b ≠ a → (fun b => if b = a then some (HO.frz { cls := .type "list", data := .seq vals.toArray } (.lst (ns.map V.int))) else none) b = none := fun h => if_neg h
    have only : Only (fun b => if b = a then some (HO.frz { cls := .type "list", data := .seq vals.toArray } (.lst (ns.map V.int))) else none) := fun b => by
      by_cases hb : b = a
      · exact Or.inr ⟨_, _, at_a hb⟩
      · exact Or.inl (off_a hb)
    refine law_from kin glob blt boot nolim gens script room F bind _ only (promise _ only (Or.inl (Or.inr ⟨_, at_a rfl⟩))) (fun b u z => ?_) (fun b z => ?_) (fun _ => own)
    · by_cases hb : b = a
      · have e := (at_a hb).symm.trans z
        cases e
        subst hb
        exact ⟨script, by rw [List.length_map]; exact few, vals, _, rel, script⟩
      · have e := (off_a hb).symm.trans z
        cases e
    · by_cases hb : b = a
      · exact hb
      · exact absurd (off_a hb) z
end
/-- the goal that the head leaves, from the law's promise -/
theorem walk_g {l : PySem.W.OpenLaw} {n k : Nat} {q : Program} {loose : List Str} {XP : (Str → Option Value) → Heap → Prop} {YP : World → Heap → Prop} {d : DefRec} {K : Params → PySem.W.Frag} {sp : PySem.W.Frag → Sp} {x : Str}
    (hn : l.most = some n) (few : n ≤ sizeLine) (hdf : d.params.defaults = []) (room : Room k callerA) (hY : ∀ (w : World) (h : Heap), YP w h → (K w.params).In h)
    (F : ∀ (w : World) (mg : Str → Option Value) (fa : Addr) (h : Heap), (K w.params).In h → h.Ns mainGlobals mg → mg d.name = some (.ref fa) →
      ∃ fd : FuncData, (∀ (s : Shared) (u : Value), BindsTo s fd ⟨[u], []⟩ [(x, u)]) ∧ ∀ base : Heap, (K w.params).In base → base.Ns mainGlobals mg → FnG l.prog w (K w.params) mg base k fa fd [x] (sp (K w.params)))
    (promise : ∀ (K : PySem.W.Frag) (H : Hp) (a : Addr) (ns : List Int), ns.length ≤ n → SqL K H a (ns.map V.int) → sp K [.ref a] H (fun v _ => v = .bl true) E0) :
    PySem.W.WalkO q loose XP YP l.row.toRowW d [] (fun f vs => PySem.call f vs) := by
  refine Att.attach_call hn hdf fun w s₀ s₁ mg mb fa o pm cd doc a vs ns G Y ho hd hcd hmg hobj hints hlen hg => ?_
  have kin := hY w _ Y
  obtain ⟨fd, bind, made⟩ := F w mg fa _ kin G.T.g hmg
  exact law_g kin G.T.g G.T.b G.T.builtins G.T.nolimit hg hobj hints (Nat.le_trans hlen few) room made bind fun H _ hS => promise _ H a ns hlen hS
end NL

/-! plans as trees, and as they lie in the heap -/
namespace NL
open PySem L2 Evl
inductive Tr where
  | hand (n : Str)
  | grp (n : Str) (b : Int) (ms : List Tr)
/-- name, whether it is a group, the groups around it -/
abbrev Rw := Str × Bool × List Str
mutual
def Tr.told : Tr → List Str → List Rw
  | .hand n, p => [(n, false, p)]
  | .grp n _ ms, p => (n, true, p) :: tolds ms (n :: p)
def tolds : List Tr → List Str → List Rw
  | [], _ => []
  | t :: ts, p => t.told p ++ tolds ts p
end
mutual
def Tr.size : Tr → Nat
  | .hand _ => 1
  | .grp _ _ ms => sizes ms + 1
def sizes : List Tr → Nat
  | [] => 0
  | t :: ts => t.size + sizes ts
end
mutual
def Tr.deep : Tr → Nat
  | .hand _ => 0
  | .grp _ _ ms => deeps ms + 1
def deeps : List Tr → Nat
  | [] => 0
  | t :: ts => max t.deep (deeps ts)
end
mutual
theorem told_len : ∀ (t : Tr) (p : List Str), (t.told p).length = t.size
  | .hand n, p => by simp [Tr.told, Tr.size]
  | .grp n b ms, p => by simp [Tr.told, Tr.size, tolds_len ms]
theorem tolds_len : ∀ (ts : List Tr) (p : List Str), (tolds ts p).length = sizes ts
  | [], p => by simp [tolds, sizes]
  | t :: ts, p => by simp [tolds, sizes, told_len t, tolds_len ts]
end
mutual
inductive TrV (H : Hp) : V → Tr → Prop
  | hand (n : Str) : TrV H (.str n) (.hand n)
  | grp {a m : Addr} {n : Str} {b : Int} {xs : List V} {ms : List Tr} : H a = some (.tup [.str n, .int b, .ref m]) → H m = some (.tup xs) → TrVs H xs ms → TrV H (.ref a) (.grp n b ms)
inductive TrVs (H : Hp) : List V → List Tr → Prop
  | nil : TrVs H [] []
  | cons {v : V} {vs : List V} {t : Tr} {ts : List Tr} : TrV H v t → TrVs H vs ts → TrVs H (v :: vs) (t :: ts)
end
/-- tuples stay -/
def TK (H H' : Hp) : Prop := ∀ a xs, H a = some (.tup xs) → H' a = some (.tup xs)
theorem TK.refl (H : Hp) : TK H H := fun _ _ e => e
theorem TK.trans {H H1 H2 : Hp} (a : TK H H1) (b : TK H1 H2) : TK H H2 := fun x o e => b x o (a x o e)
theorem TK.ex {H H' : Hp} (e : Ex H H') : TK H H' := fun a xs h => e a _ h
theorem TK.put {H : Hp} {p : Addr} {o : HO} (h : ∀ xs, H p ≠ some (.tup xs)) : TK H (upd H p o) := fun a xs e => by
  rw [upd_ne (fun z => by subst z; exact h _ e)]
  exact e
theorem TK.lst {H : Hp} {p : Addr} {o : HO} {ys : List V} (h : H p = some (.lst ys)) : TK H (upd H p o) := TK.put fun xs e => by rw [h] at e; cases e
theorem TK.new {H : Hp} {p : Addr} {o : HO} (h : H p = none) : TK H (upd H p o) := TK.put fun xs e => by rw [h] at e; cases e
mutual
theorem trv_tk {H H' : Hp} (k : TK H H') : ∀ (t : Tr) (v : V), TrV H v t → TrV H' v t
  | .hand n, _, h => by cases h; exact .hand n
  | .grp n b ms, _, h => by
    cases h with
    | grp h1 h2 h3 => exact .grp (k _ _ h1) (k _ _ h2) (trvs_tk k ms _ h3)
theorem trvs_tk {H H' : Hp} (k : TK H H') : ∀ (ts : List Tr) (vs : List V), TrVs H vs ts → TrVs H' vs ts
  | [], _, h => by cases h; exact .nil
  | t :: ts, _, h => by
    cases h with
    | cons h1 h2 => exact .cons (trv_tk k t _ h1) (trvs_tk k ts _ h2)
end
theorem trvs_get {H : Hp} : ∀ {vs : List V} {ts : List Tr} {i : Nat} {v : V}, TrVs H vs ts → vs[i]? = some v → ∃ t, ts[i]? = some t ∧ TrV H v t
  | _, _, _, _, .nil, e => by simp at e
  | _, _, 0, _, .cons r _, e => by simp at e; subst e; exact ⟨_, rfl, r⟩
  | _, _, i + 1, v, .cons _ t, e => by
    obtain ⟨d, h1, h2⟩ := trvs_get (i := i) (v := v) t (by simpa using e)
    exact ⟨d, by simpa using h1, h2⟩
theorem trvs_len {H : Hp} : ∀ {vs : List V} {ts : List Tr}, TrVs H vs ts → vs.length = ts.length
  | _, _, .nil => rfl
  | _, _, .cons _ t => by rw [List.length_cons, List.length_cons, trvs_len t]
theorem tolds_take : ∀ (ts : List Tr) (i : Nat) (t : Tr) (p : List Str), ts[i]? = some t → tolds (ts.take (i + 1)) p = tolds (ts.take i) p ++ t.told p
  | [], _, _, _, h => by simp at h
  | u :: ts, 0, t, p, h => by
    simp at h
    subst h
    simp [tolds]
  | u :: ts, i + 1, t, p, h => by
    have ih := tolds_take ts i t p (by simpa using h)
    simp only [List.take_succ_cons, tolds]
    rw [ih, List.append_assoc]
theorem sizes_mem : ∀ {ts : List Tr} {i : Nat} {t : Tr}, ts[i]? = some t → t.size ≤ sizes ts
  | [], _, _, h => by simp at h
  | u :: ts, 0, t, h => by simp at h; subst h; simp [sizes]
  | u :: ts, i + 1, t, h => by
    have := sizes_mem (ts := ts) (i := i) (t := t) (by simpa using h)
    simp only [sizes]
    omega
theorem deeps_mem : ∀ {ts : List Tr} {i : Nat} {t : Tr}, ts[i]? = some t → t.deep ≤ deeps ts
  | [], _, _, h => by simp at h
  | u :: ts, 0, t, h => by simp at h; subst h; simp only [deeps]; exact Nat.le_max_left _ _
  | u :: ts, i + 1, t, h => by
    have := deeps_mem (ts := ts) (i := i) (t := t) (by simpa using h)
    simp only [deeps]
    exact Nat.le_trans this (Nat.le_max_right _ _)
theorem sizes_take : ∀ (ts : List Tr) (i : Nat), sizes (ts.take i) ≤ sizes ts
  | [], i => by simp [sizes]
  | t :: ts, 0 => by simp [sizes]
  | t :: ts, i + 1 => by
    have := sizes_take ts i
    simp only [List.take_succ_cons, sizes]
    omega
/-- a row of a tale of a plan, in the heap -/
def RowT (H : Hp) (v : V) (r : Rw) : Prop := ∃ a pa, v = .ref a ∧ H a = some (.tup [.str r.1, .bl r.2.1, .ref pa]) ∧ H pa = some (.tup (r.2.2.map V.str))
inductive Rows (H : Hp) : List V → List Rw → Prop
  | nil : Rows H [] []
  | cons {v : V} {vs : List V} {r : Rw} {rs : List Rw} : RowT H v r → Rows H vs rs → Rows H (v :: vs) (r :: rs)
theorem RowT.tk {H H' : Hp} {v : V} {r : Rw} (k : TK H H') (h : RowT H v r) : RowT H' v r := by
  obtain ⟨a, pa, e, h1, h2⟩ := h
  exact ⟨a, pa, e, k _ _ h1, k _ _ h2⟩
theorem Rows.tk {H H' : Hp} (k : TK H H') : ∀ {vs : List V} {rs : List Rw}, Rows H vs rs → Rows H' vs rs
  | _, _, .nil => .nil
  | _, _, .cons a b => .cons (a.tk k) (b.tk k)
theorem Rows.app {H : Hp} : ∀ {vs us : List V} {rs qs : List Rw}, Rows H vs rs → Rows H us qs → Rows H (vs ++ us) (rs ++ qs)
  | _, _, _, _, .nil, h => h
  | _, _, _, _, .cons a b, h => .cons a (b.app h)
theorem Rows.one {H : Hp} {v : V} {r : Rw} (h : RowT H v r) : Rows H [v] [r] := .cons h .nil
theorem Rows.len {H : Hp} : ∀ {vs : List V} {rs : List Rw}, Rows H vs rs → vs.length = rs.length
  | _, _, .nil => rfl
  | _, _, .cons _ t => by rw [List.length_cons, List.length_cons, t.len]
theorem Rows.get {H : Hp} : ∀ {vs : List V} {rs : List Rw} {i : Nat} {v : V}, Rows H vs rs → vs[i]? = some v → ∃ r, rs[i]? = some r ∧ RowT H v r
  | _, _, _, _, .nil, e => by simp at e
  | _, _, 0, _, .cons r _, e => by simp at e; subst e; exact ⟨_, rfl, r⟩
  | _, _, i + 1, v, .cons _ t, e => by
    obtain ⟨d, h1, h2⟩ := t.get (i := i) (v := v) (by simpa using e)
    exact ⟨d, by simpa using h1, h2⟩
/-- isinstance(x, T), by the thing's kind -/
theorem ev_isK {K : PySem.W.Frag} {σ : L2.St} {H : Hp} {ta : TE} {x : V} {T S : String} {b : Bool} (ha : Ev ta σ H x) (ty : ∀ H2, Ex H H2 → TyX K H2 x (.type S)) (hk : kitB S T = some b) : Ev (tCB (rIsi K) (tCons ta (tCons (tC (.ty T)) tNil))) σ H (.bl b) := fun H1 e Q q =>
  ha H1 e _ fun H2 e2 => ⟨x, .ty T, _, _, b, rfl, .ty T, ty H2 (e.trans e2), kit_ty hk, q H2 e2⟩
theorem q_asgG {te : TE} {g : TG} {tz : TS} {D : Ends} {σ : L2.St} {H : Hp} (h : te σ H fun x H1 => g x σ H1 fun σ2 H2 => tz D σ2 H2) : tSeq (tAsg te g) tz D σ H := h
def Tr.isHand : Tr → Bool
  | .hand _ => true
  | _ => false
theorem ev_isHand {K : PySem.W.Frag} {σ : L2.St} {H : Hp} {ta : TE} {x : V} {t : Tr} (ha : Ev ta σ H x) (h : TrV H x t) : Ev (tCB (rIsi K) (tCons ta (tCons (tC (.ty "str")) tNil))) σ H (.bl t.isHand) := by
  cases h with
  | hand n => exact ev_isK ha (fun H2 _ => .base (.str n)) (by decide +kernel : kitB "str" "str" = some true)
  | grp h1 h2 h3 => exact ev_isK ha (fun H2 e => .base (.tup (e _ _ h1))) (by decide +kernel : kitB "tuple" "str" = some false)
theorem find_at {α : Type} {p : α → Bool} : ∀ {rs : List α} {i : Nat} {r : α}, (∀ x ∈ rs.take i, p x = false) → rs[i]? = some r → p r = true → rs.find? p = some r
  | [], _, _, _, h, _ => by simp at h
  | x :: rs, 0, r, _, h, hp => by
    simp at h
    subst h
    simp [List.find?_cons, hp]
  | x :: rs, i + 1, r, hn, h, hp => by
    have h0 := hn x (by simp)
    have := find_at (p := p) (rs := rs) (i := i) (r := r) (fun y hy => hn y (by simp [hy])) (by simpa using h) hp
    simp [List.find?_cons, h0, this]
theorem find_none {α : Type} {p : α → Bool} {rs : List α} (h : ∀ x ∈ rs, p x = false) : rs.find? p = none := by
  rw [List.find?_eq_none]
  intro x hx
  rw [h x hx]
  decide
theorem filter_take {α : Type} {p : α → Bool} {rs : List α} {i : Nat} {r : α} (h : rs[i]? = some r) : (rs.take (i + 1)).filter p = (rs.take i).filter p ++ (if p r = true then [r] else []) := by
  rw [List.take_succ, h, List.filter_append]
  simp [List.filter_cons]
/-! ### names -/
def letter (c : Nat) : Bool := decide (97 ≤ c) && decide (c ≤ 122)
def nameOk (s : Str) : Prop := 1 ≤ s.length ∧ s.length ≤ 8 ∧ ∀ c ∈ s.cps.toList, 97 ≤ c ∧ c ≤ 122
def midOf (k : Nat) : List Nat := if k = 0 then [] else if k = 1 then [113] else [120]
/-- the name of a spot, as codes -/
def spotL (s : Nat) (stem : List Nat) : List Nat := (97 + s % 26) :: (midOf (s / 26) ++ stem)
theorem spot_inj {s s' : Nat} {stem : List Nat} (h1 : s < 60) (h2 : s' < 60) (h : spotL s stem = spotL s' stem) : s = s' := by
  unfold spotL at h
  have ha : s % 26 = s' % 26 := by
    have := (List.cons.inj h).1
    omega
  have hb := (List.cons.inj h).2
  have hc : midOf (s / 26) = midOf (s' / 26) := List.append_cancel_right hb
  have hd : s / 26 = s' / 26 := by
    have c1 : s / 26 = 0 ∨ s / 26 = 1 ∨ s / 26 = 2 := by omega
    have c2 : s' / 26 = 0 ∨ s' / 26 = 1 ∨ s' / 26 = 2 := by omega
    rcases c1 with c1 | c1 | c1 <;> rcases c2 with c2 | c2 | c2 <;> rw [c1, c2] at hc ⊢ <;> simp [midOf] at hc
  omega
theorem spot_letters {s : Nat} {stem : List Nat} (hs : ∀ c ∈ stem, 97 ≤ c ∧ c ≤ 122) : ∀ c ∈ spotL s stem, 97 ≤ c ∧ c ≤ 122 := by
  intro c hc
  unfold spotL at hc
  rcases List.mem_cons.mp hc with rfl | hc
  · omega
  · rcases List.mem_append.mp hc with hc | hc
    · unfold midOf at hc
      split at hc
      · cases hc
      · split at hc
        · simp at hc; omega
        · simp at hc; omega
    · exact hs c hc
theorem spot_len (s : Nat) (stem : List Nat) : (spotL s stem).length ≤ stem.length + 2 ∧ 1 ≤ (spotL s stem).length := by
  unfold spotL midOf
  simp only [List.length_cons, List.length_append]
  split
  · simp
  · split <;> simp <;> omega
theorem nodup_set {xs : List Str} {w : Str} (h : xs.Nodup) (hw : w ∉ xs) : ∀ j : Nat, (xs.set j w).Nodup := by
  induction xs with
  | nil => intro j; simp
  | cons x xs ih =>
    intro j
    have hx := List.nodup_cons.mp h
    cases j with
    | zero =>
      simp only [List.set_cons_zero]
      exact List.nodup_cons.mpr ⟨fun z => hw (List.mem_cons_of_mem _ z), hx.2⟩
    | succ j =>
      simp only [List.set_cons_succ]
      refine List.nodup_cons.mpr ⟨fun z => ?_, ih hx.2 (fun z => hw (List.mem_cons_of_mem _ z)) j⟩
      rcases List.mem_or_eq_of_mem_set z with z | z
      · exact hx.1 z
      · exact hw (by rw [← z]; exact List.mem_cons_self ..)
theorem map_nodup {α : Type} {f : Nat → α} {n : Nat} (h : ∀ i j, i < n → j < n → f i = f j → i = j) : ((List.range n).map f).Nodup := by
  unfold List.Nodup
  rw [List.pairwise_map]
  refine List.Pairwise.imp_of_mem (fun {a b} ha hb hab => ?_) (List.nodup_range (n := n))
  intro e
  exact hab (h a b (List.mem_range.mp ha) (List.mem_range.mp hb) e)
theorem q_parP {i j : Nat} {ta : TA} {tz : TS} {D : Ends} {σ : L2.St} {H : Hp} (h : ta σ H fun vs H1 => ∃ v w, vs = [v, w] ∧ tz D ((σ.set i (some v)).set j (some w)) H1) : tSeq (tPar i j ta) tz D σ H := h
theorem in_strs {x : Str} {xs : List Str} : inV (.str x) (xs.map V.str) = decide (x ∈ xs) := by
  unfold inV
  rw [List.any_map]
  rw [Bool.eq_iff_iff, List.any_eq_true, decide_eq_true_eq]
  constructor
  · intro ⟨y, hy, e⟩
    have : y = x := by simpa [eqV] using e
    subst this
    exact hy
  · intro h
    exact ⟨x, h, by simp [eqV]⟩
theorem flat_strs (xs : List Str) : (xs.map V.str).all flatV = true := by
  rw [List.all_map, List.all_eq_true]
  intro x _
  rfl
theorem tYesQ {σ : L2.St} {H : Hp} {A B : Hp → Prop} (h : A H) : tYes σ H fun b H3 => if b = true then A H3 else B H3 := by
  show if true = true then A H else B H
  rw [if_pos rfl]
  exact h
/-- a loop over a new tuple -/
theorem q_forTu {K : PySem.W.Frag} {σ : L2.St} {H : Hp} {xs : List V} {tl : TE} {j : Nat} {tu tz : TS} {D : Ends} (h : EvU tl σ H xs) (Pv : Addr → Nat → L2.St → Hp → Prop) (h0 : ∀ p H1, H p = none → Ex H H1 → H1 p = some (.tup xs) → Pv p 0 σ H1) (hl : ∀ p i σ' H', i ≤ xs.length → Pv p i σ' H' → SqT K H' p xs)
    (hs : ∀ p i x σ' H', xs[i]? = some x → Pv p i σ' H' → tu { D with nx := Pv p (i + 1), ct := Pv p (i + 1), bk := tz D } (σ'.set j (some x)) H') (hd : ∀ p σ' H', Pv p xs.length σ' H' → tz D σ' H') : tSeq (tFor (iTup K tl) (gName j) tu) tz D σ H := by
  refine h H (Ex.refl H) _ fun p H1 fresh e at_p => ?_
  exact ⟨p, rfl, ⟨xs, st_of at_p⟩, for_tup (Pv p) (h0 p H1 fresh e at_p) (hl p) (hs p) (hd p)⟩
/-! ### names of a tree -/
mutual
def Tr.nms : Tr → List Str
  | .hand n => [n]
  | .grp n _ ms => n :: nmss ms
def nmss : List Tr → List Str
  | [] => []
  | t :: ts => t.nms ++ nmss ts
end
mutual
theorem told_nms : ∀ (t : Tr) (p : List Str), (t.told p).map (·.1) = t.nms
  | .hand n, p => by simp [Tr.told, Tr.nms]
  | .grp n b ms, p => by simp [Tr.told, Tr.nms, tolds_nms ms]
theorem tolds_nms : ∀ (ts : List Tr) (p : List Str), (tolds ts p).map (·.1) = nmss ts
  | [], p => by simp [tolds, nmss]
  | t :: ts, p => by simp [tolds, nmss, told_nms t, tolds_nms ts]
end
theorem nms_len (t : Tr) : t.nms.length = t.size := by rw [← told_nms t [], List.length_map, told_len]
theorem nmss_len (ts : List Tr) : (nmss ts).length = sizes ts := by rw [← tolds_nms ts [], List.length_map, tolds_len]
theorem nmss_app : ∀ (ts us : List Tr), nmss (ts ++ us) = nmss ts ++ nmss us
  | [], us => by simp [nmss]
  | t :: ts, us => by simp [nmss, nmss_app ts us]
theorem sizes_app : ∀ (ts us : List Tr), sizes (ts ++ us) = sizes ts + sizes us
  | [], us => by simp [sizes]
  | t :: ts, us => by simp [sizes, sizes_app ts us]; omega
theorem deeps_app : ∀ (ts us : List Tr), deeps (ts ++ us) = max (deeps ts) (deeps us)
  | [], us => by simp [deeps]
  | t :: ts, us => by simp [deeps, deeps_app ts us, Nat.max_assoc]
theorem trvs_app {H : Hp} : ∀ {vs us : List V} {ts qs : List Tr}, TrVs H vs ts → TrVs H us qs → TrVs H (vs ++ us) (ts ++ qs)
  | _, _, _, _, .nil, h => h
  | _, _, _, _, .cons a b, h => .cons a (trvs_app b h)
mutual
def Tr.ok : Tr → Prop
  | .hand _ => True
  | .grp _ b ms => 1 ≤ b ∧ b ≤ 99999999 ∧ ms ≠ [] ∧ oks ms
def oks : List Tr → Prop
  | [] => True
  | t :: ts => t.ok ∧ oks ts
end
theorem oks_app : ∀ {ts us : List Tr}, oks ts → oks us → oks (ts ++ us)
  | [], _, _, h => h
  | _ :: _, _, a, h => by
    simp only [oks, List.cons_append] at a ⊢
    exact ⟨a.1, oks_app a.2 h⟩
/-- how many names a member takes at most -/
def mem : Nat → Nat → Nat
  | 0, _ => 1
  | d + 1, w => 1 + w * mem d w
theorem mem_pos : ∀ d w, 1 ≤ mem d w
  | 0, _ => by simp [mem]
  | d + 1, w => by simp [mem]
/-- all stays but the hand and one list -/
def Kn (h l m : Addr) (H H' : Hp) : Prop := ∀ a o, a ≠ h → a ≠ l → a ≠ m → H a = some o → H' a = some o
theorem Kn.refl (h l m : Addr) (H : Hp) : Kn h l m H H := fun _ _ _ _ _ e => e
theorem Kn.trans {h l m : Addr} {H H1 H2 : Hp} (a : Kn h l m H H1) (b : Kn h l m H1 H2) : Kn h l m H H2 := fun x o n1 n2 n3 e => b x o n1 n2 n3 (a x o n1 n2 n3 e)
theorem Kn.kp {h l m : Addr} {H H1 : Hp} (a : Kp h l H H1) : Kn h l m H H1 := fun x o n1 n2 _ e => a x o n1 n2 e
theorem Kn.ex {h l m : Addr} {H H1 : Hp} (a : Ex H H1) : Kn h l m H H1 := fun x o _ _ _ e => a x o e
theorem Kn.put {h l m : Addr} {H H1 : Hp} {o : HO} (a : Kn h l m H H1) : Kn h l m H (upd H1 m o) := fun x u n1 n2 n3 e => by
  rw [upd_ne n3]
  exact a x u n1 n2 n3 e
theorem Kn.mut {h l m p : Addr} {H H1 : Hp} {o : HO} (a : Kn h l m H H1) (hp : H p = none) : Kn h l m H (upd H1 p o) := fun x u n1 n2 n3 e => by
  rw [upd_ne (fun z => by subst z; rw [hp] at e; cases e)]
  exact a x u n1 n2 n3 e
theorem Kn.tk {h l m : Addr} {H H1 : Hp} {ys : List V} (A : Hand H h l) (hm : H m = some (.lst ys)) (a : Kn h l m H H1) : TK H H1 := fun x xs e => by
  obtain ⟨n1, n2⟩ := A.off e (fun _ z => by cases z)
  exact a x _ n1 n2 (fun z => by subst z; rw [hm] at e; cases e) e
theorem q_forU {wi : TI} {g : TG} {tb tz : TS} {D : Ends} {σ : L2.St} {H : Hp} (h : wi σ H fun J H1 => ∃ W : Nat → Nat → L2.St → Hp → Prop, (∃ m, W 0 m σ H1) ∧ ∀ i m σ H, W i m σ H →
    (J.stop i H ∧ tz D σ H) ∨ (J.go i H ∧ ∃ N : L2.St → Hp → Prop, (∀ σ' H', N σ' H' → ∃ m', m' < m ∧ W (i + 1) m' σ' H') ∧ ∀ x H', J.yld i H x H' → g x σ H' fun σ2 H2 => tb { D with nx := N, ct := N, bk := tz D } σ2 H2)) : tSeq (tFor wi g tb) tz D σ H := h
theorem rng_turns {g : TG} {tb tz : TS} {D : Ends} {σ : L2.St} {H : Hp} {n : Nat} (Pv : Nat → L2.St → Hp → Prop) (h0 : Pv 0 σ H) (hs : ∀ (i : Nat) σ' H', i < n → Pv i σ' H' → g (.int (0 + (i : Int))) σ' H' fun σ2 H2 => tb { D with nx := Pv (i + 1), ct := Pv (i + 1), bk := tz D } σ2 H2) (hd : ∀ σ' H', Pv n σ' H' → tz D σ' H') :
    ∃ W : Nat → Nat → L2.St → Hp → Prop, (∃ m, W 0 m σ H) ∧ ∀ i m σ H, W i m σ H →
    ((Itr 0 n).stop i H ∧ tz D σ H) ∨ ((Itr 0 n).go i H ∧ ∃ N : L2.St → Hp → Prop, (∀ σ' H', N σ' H' → ∃ m', m' < m ∧ W (i + 1) m' σ' H') ∧ ∀ x H', (Itr 0 n).yld i H x H' → g x σ H' fun σ2 H2 => tb { D with nx := N, ct := N, bk := tz D } σ2 H2) :=
  for_range (lo := 0) (n := n) (D := { D with nx := tz D }) Pv h0 hs hd
theorem last_of {xs : List Str} (h : 1 ≤ xs.length) : ∃ ys n, xs = ys ++ [n] := by
  refine ⟨xs.dropLast, xs.getLast (fun z => by subst z; simp at h), ?_⟩
  exact (List.dropLast_concat_getLast _).symm
theorem last_get (ys : List Str) (n : Str) : ((ys ++ [n]).map V.str)[((ys ++ [n]).map V.str).length - 1]? = some (.str n) := by
  simp
theorem last_drop (ys : List Str) (n : Str) : ((ys ++ [n]).map V.str).dropLast = ys.map V.str := by
  rw [List.map_append]
  simp
end NL

/-! repr of what lies in the heap; plans as data -/
namespace NL
open PySem PySem.Spec PyProof.Rows L2 Evl
/-- data whose text fits -/
def shows (d : PyData) : Prop := d.showable = true ∧ d.hasDict = false ∧ d.depth ≤ 64 ∧ d.shown.length ≤ 100000
def rRepr (K : PySem.W.Frag) : List V → Hp → VK → Prop := fun xs H Q => ∃ (a : Addr) (d : PyData), xs = [.ref a] ∧ Dp K H (.ref a) d ∧ shows d ∧ Q (.str d.shown) H
theorem hu_r {k : Nat} {A : Around} (hr : Room k A) : A.units + 100 < cLine := by
  have := hr.un
  omega
theorem reprK {X : Cx} {K : PySem.W.Frag} (h : X.K = K) (quiet : X.A.guards = some []) (room : X.A.units + 100 < cLine) : CallR X (.builtin "repr") (rRepr K) := by
  subst h
  intro pins s σ H xs us Q I rel told
  obtain ⟨a, d, e, data, ⟨s1, s2, s3, s4⟩, q⟩ := told
  subst e
  obtain ⟨u, eu, ru⟩ := vals1 rel
  subst eu
  cases ru
  obtain ⟨as, reads⟩ := Dp.reads I d (.ref a) (.ref a) data rfl
  refine repr_of_reads' reads s1 (fun z => ?_) quiet (by omega) (fun b o e => e) (fun h' u tk kept => ?_) (Nat.le_trans s4 (by decide))
  · rw [s2] at z
    cases z
  · exact ⟨.str d.shown, H, I.kept kept, ⟨u, rfl⟩, q⟩
section
variable {K : PySem.W.Frag} {σ : L2.St} {H : Hp} {ta te : TE}
theorem ev_repr {a : Addr} {d : PyData} (ha : Ev ta σ H (.ref a)) (hd : Dp K H (.ref a) d) (hs : shows d) : Ev (tCB (rRepr K) (tCons ta tNil)) σ H (.str d.shown) := fun H1 e Q q =>
  ha H1 e _ fun H2 e2 => ⟨a, d, rfl, dp_mono (e.trans e2) hd, hs, q H2 e2⟩
/-- evaluates to some tuple of these things -/
def EvP (te : TE) (σ : L2.St) (H : Hp) (xs : List V) : Prop := ∀ H1, Ex H H1 → ∀ Q : VK, (∀ p H2, Ex H1 H2 → H2 p = some (.tup xs) → Q (.ref p) H2) → te σ H1 Q
theorem dpa_strs {H : Hp} : ∀ ns : List Str, DpAll K H (ns.map V.str) (ns.map PyData.str)
  | [] => .nil
  | n :: r => .cons (.str n) (dpa_strs r)
theorem ev_reprP {ns : List Str} (h : EvP te σ H (ns.map V.str)) (hs : shows (.tuple (ns.map PyData.str))) : Ev (tCB (rRepr K) (tCons te tNil)) σ H (.str (PyData.tuple (ns.map PyData.str)).shown) := fun H1 e Q q =>
  h H1 e _ fun p H2 e2 hp => ⟨p, _, rfl, .tup (st_of hp) (dpa_strs ns), hs, q H2 e2⟩
end
/-! ### how long a text is -/
theorem join_len (sep : Str) : ∀ ts : List Str, (Str.join sep ts).length ≤ (ts.map fun t => t.length + sep.length).sum
  | [] => by simp [Str.join, Str.empty, Str.length]
  | [t] => by simp [Str.join]
  | t :: u :: r => by
    have ih := join_len sep (u :: r)
    simp only [Str.join, Str.length_append, List.map_cons, List.sum_cons] at ih ⊢
    omega
theorem tuple_len (ts : List Str) : (tupleText ts).length ≤ (ts.map fun t => t.length + 2).sum + 3 := by
  unfold tupleText
  rw [Str.length_append, Str.length_append]
  have h := join_len ", " ts
  have e1 : (", " : Str).length = 2 := by decide +kernel
  have e2 : ("(" : Str).length = 1 := by decide +kernel
  rw [e1] at h
  have e3 : (Str.ofString (if (ts.length == 1) = true then ",)" else ")" : String)).length ≤ 2 := by
    split
    · decide +kernel
    · decide +kernel
  omega
theorem name_len {n : Str} (h : nameOk n) : (PyData.str n).shown.length ≤ 82 := by
  have e : (PyData.str n).shown = reprText n := by simp only [PyData.shown]
  rw [e]
  have := StrLaws.reprText_len n (fun c hc => by have := h.2.2 c hc; omega)
  have := h.2.1
  omega
theorem sum_le {α : Type} {f : α → Nat} {b : Nat} : ∀ {l : List α}, (∀ x ∈ l, f x ≤ b) → (l.map f).sum ≤ b * l.length
  | [], _ => by simp
  | x :: l, h => by
    have h1 := h x (List.mem_cons_self ..)
    have h2 := sum_le (f := f) (b := b) (l := l) (fun y hy => h y (List.mem_cons_of_mem _ hy))
    simp only [List.map_cons, List.sum_cons, List.length_cons, Nat.mul_succ]
    omega
theorem shownAll_map : ∀ ds : List PyData, PyData.shownAll ds = ds.map PyData.shown
  | [] => by simp [PyData.shownAll]
  | d :: ds => by simp [PyData.shownAll, shownAll_map ds]
theorem shows_names {ns : List Str} (h : ∀ n ∈ ns, nameOk n) (hl : ns.length ≤ 1000) : shows (.tuple (ns.map PyData.str)) := by
  refine ⟨?_, ?_, ?_, ?_⟩
  · simp only [PyData.showable]
    clear h hl
    induction ns with
    | nil => simp [PyData.showableAll]
    | cons n r ih => simp [PyData.showableAll, PyData.showable, ih]
  · simp only [PyData.hasDict]
    clear h hl
    induction ns with
    | nil => simp [PyData.hasDictAll]
    | cons n r ih => simp [PyData.hasDictAll, PyData.hasDict, ih]
  · simp only [PyData.depth]
    have : PyData.depthAll (ns.map PyData.str) = 0 := by
      clear h hl
      induction ns with
      | nil => simp [PyData.depthAll]
      | cons n r ih => simp [PyData.depthAll, PyData.depth, ih]
    omega
  · simp only [PyData.shown, shownAll_map]
    have t := tuple_len ((ns.map PyData.str).map PyData.shown)
    have s := sum_le (f := fun t : Str => t.length + 2) (b := 84) (l := (ns.map PyData.str).map PyData.shown) (fun x hx => by
      obtain ⟨d, hd, rfl⟩ := List.mem_map.mp hx
      obtain ⟨n, hn, rfl⟩ := List.mem_map.mp hd
      have := name_len (h n hn)
      omega)
    simp only [List.length_map] at s
    omega
/-! ### a plan as a datum -/
mutual
def Tr.dat : Tr → PyData
  | .hand n => .str n
  | .grp n b ms => .tuple [.str n, .int b, .tuple (dats ms)]
def dats : List Tr → List PyData
  | [] => []
  | t :: ts => t.dat :: dats ts
end
mutual
theorem trv_dp {K : PySem.W.Frag} {H : Hp} : ∀ (t : Tr) (v : V), TrV H v t → Dp K H v t.dat
  | .hand n, _, h => by cases h; simp only [Tr.dat]; exact .str n
  | .grp n b ms, _, h => by
    cases h with
    | grp h1 h2 h3 =>
      simp only [Tr.dat]
      exact .tup (st_of h1) (.cons (.str n) (.cons (.int b) (.cons (.tup (st_of h2) (trvs_dp ms _ h3)) .nil)))
theorem trvs_dp {K : PySem.W.Frag} {H : Hp} : ∀ (ts : List Tr) (vs : List V), TrVs H vs ts → DpAll K H vs (dats ts)
  | [], _, h => by cases h; simp only [dats]; exact .nil
  | t :: ts, _, h => by
    cases h with
    | cons h1 h2 =>
      simp only [dats]
      exact .cons (trv_dp t _ h1) (trvs_dp ts _ h2)
end
theorem ok_lay {n : Str} (h : nameOk n) : PyData.strOk n = true := by
  unfold PyData.strOk
  rw [Array.all_eq_true']
  intro c hc
  have := h.2.2 c (by simpa using hc)
  simp
  omega
mutual
theorem dat_facts : ∀ (t : Tr), (∀ n ∈ t.nms, nameOk n) → t.ok → t.dat.canLay0 = true ∧ t.dat.depth ≤ 2 * t.deep ∧ t.dat.showable = true ∧ t.dat.hasDict = false ∧ t.dat.shown.length + 2 ≤ 150 * t.size
  | .hand n, h, _ => by
    have hn := h n (by simp [Tr.nms])
    have := name_len hn
    simp only [Tr.dat, Tr.deep, Tr.size]
    refine ⟨by simp only [PyData.canLay0]; exact ok_lay hn, by simp [PyData.depth], by simp [PyData.showable], by simp [PyData.hasDict], by omega⟩
  | .grp n b ms, h, ho => by
    have hn := h n (by simp [Tr.nms])
    have hb := name_len hn
    simp only [Tr.ok] at ho
    obtain ⟨b1, b2, _, ho⟩ := ho
    obtain ⟨i1, i2, i3, i4, i5⟩ := dats_facts ms (fun m hm => h m (by simp [Tr.nms, hm])) ho
    have bl : b.natAbs.log2 < 27 := by
      have : b.natAbs < 2 ^ 27 := by omega
      by_cases h0 : b.natAbs = 0
      · rw [h0]; decide
      · exact (Nat.log2_lt h0).mpr this
    have it : (PyData.int b).shown.length ≤ 28 := by
      simp only [PyData.shown]
      have := int_text_length_le (a := b) (k := 27) (by decide) bl
      rw [PySem.ofString_length]
      exact this
    simp only [Tr.dat, Tr.deep, Tr.size]
    refine ⟨?_, ?_, ?_, ?_, ?_⟩
    · simp [PyData.canLay0, PyData.canLayAll0, ok_lay hn, i1]
    · simp only [PyData.depth, PyData.depthAll]
      omega
    · simp only [PyData.showable, PyData.showableAll, i3, Bool.and_true, Bool.true_and, decide_eq_true_eq]
      omega
    · simp [PyData.hasDict, PyData.hasDictAll, i4]
    · have t1 := tuple_len [(PyData.str n).shown, (PyData.int b).shown, (PyData.tuple (dats ms)).shown]
      have t2 := tuple_len ((dats ms).map PyData.shown)
      have e1 : (PyData.tuple [.str n, .int b, .tuple (dats ms)]).shown = tupleText [(PyData.str n).shown, (PyData.int b).shown, (PyData.tuple (dats ms)).shown] := by simp only [PyData.shown, PyData.shownAll]
      have e2 : (PyData.tuple (dats ms)).shown = tupleText ((dats ms).map PyData.shown) := by simp only [PyData.shown, shownAll_map]
      rw [e1]
      simp only [List.map_cons, List.map_nil, List.sum_cons, List.sum_nil] at t1
      rw [e2] at t1 ⊢
      omega
theorem dats_facts : ∀ (ts : List Tr), (∀ n ∈ nmss ts, nameOk n) → oks ts → PyData.canLayAll0 (dats ts) = true ∧ PyData.depthAll (dats ts) ≤ 2 * deeps ts ∧ PyData.showableAll (dats ts) = true ∧ PyData.hasDictAll (dats ts) = false ∧ (((dats ts).map PyData.shown).map fun t => t.length + 2).sum ≤ 150 * sizes ts
  | [], _, _ => by simp [dats, PyData.canLayAll0, PyData.depthAll, PyData.showableAll, PyData.hasDictAll, deeps, sizes]
  | t :: ts, h, ho => by
    simp only [oks] at ho
    obtain ⟨i1, i2, i3, i4, i5⟩ := dat_facts t (fun m hm => h m (by simp [nmss, hm])) ho.1
    obtain ⟨j1, j2, j3, j4, j5⟩ := dats_facts ts (fun m hm => h m (by simp [nmss, hm])) ho.2
    simp only [dats, PyData.canLayAll0, PyData.depthAll, PyData.showableAll, PyData.hasDictAll, deeps, sizes, i1, j1, i3, j3, i4, j4, List.map_cons, List.sum_cons]
    refine ⟨rfl, ?_, rfl, rfl, ?_⟩
    · omega
    · omega
end
theorem shows_plan {t : Tr} (h : ∀ n ∈ t.nms, nameOk n) (ho : t.ok) (hd : t.deep ≤ 12) (hs : t.size ≤ 600) : shows t.dat := by
  obtain ⟨i1, i2, i3, i4, i5⟩ := dat_facts t h ho
  exact ⟨i3, i4, by omega, by omega⟩
/-! ### what waits: a tree with the path around it -/
def QV (H : Hp) (v : V) (r : Tr × List Str) : Prop := ∃ a pa x, v = .ref a ∧ H a = some (.tup [x, .ref pa]) ∧ TrV H x r.1 ∧ H pa = some (.tup (r.2.map V.str))
inductive Queue (H : Hp) : List V → List (Tr × List Str) → Prop
  | nil : Queue H [] []
  | cons {v : V} {vs : List V} {r : Tr × List Str} {rs : List (Tr × List Str)} : QV H v r → Queue H vs rs → Queue H (v :: vs) (r :: rs)
theorem QV.tk {H H' : Hp} {v : V} {r : Tr × List Str} (k : TK H H') (h : QV H v r) : QV H' v r := by
  obtain ⟨a, pa, x, e, h1, h2, h3⟩ := h
  exact ⟨a, pa, x, e, k _ _ h1, trv_tk k _ _ h2, k _ _ h3⟩
theorem Queue.tk {H H' : Hp} (k : TK H H') : ∀ {vs : List V} {rs : List (Tr × List Str)}, Queue H vs rs → Queue H' vs rs
  | _, _, .nil => .nil
  | _, _, .cons a b => .cons (a.tk k) (b.tk k)
theorem Queue.app {H : Hp} : ∀ {vs us : List V} {rs qs : List (Tr × List Str)}, Queue H vs rs → Queue H us qs → Queue H (vs ++ us) (rs ++ qs)
  | _, _, _, _, .nil, h => h
  | _, _, _, _, .cons a b, h => .cons a (b.app h)
theorem Queue.len {H : Hp} : ∀ {vs : List V} {rs : List (Tr × List Str)}, Queue H vs rs → vs.length = rs.length
  | _, _, .nil => rfl
  | _, _, .cons _ t => by rw [List.length_cons, List.length_cons, t.len]
/-- all rows that what waits gives -/
def due : List (Tr × List Str) → List Rw
  | [] => []
  | (t, p) :: r => t.told p ++ due r
def loadQ : List (Tr × List Str) → Nat
  | [] => 0
  | (t, _) :: r => t.size + loadQ r
def fine : List (Tr × List Str) → Prop
  | [] => True
  | (t, p) :: r => ((∀ n ∈ t.nms, nameOk n) ∧ t.ok ∧ p.length + t.deep ≤ 12 ∧ (∀ n ∈ p, nameOk n)) ∧ fine r
theorem due_members : ∀ (ms : List Tr) (p : List Str) (r : List (Tr × List Str)), due (ms.map (fun m => (m, p)) ++ r) = tolds ms p ++ due r
  | [], p, r => by simp [tolds]
  | m :: ms, p, r => by simp [tolds, due, due_members ms p r]
theorem loadQ_members : ∀ (ms : List Tr) (p : List Str) (r : List (Tr × List Str)), loadQ (ms.map (fun m => (m, p)) ++ r) = sizes ms + loadQ r
  | [], p, r => by simp [sizes]
  | m :: ms, p, r => by simp [sizes, loadQ, loadQ_members ms p r]; omega
theorem fine_members : ∀ {ms : List Tr} {p : List Str} {r : List (Tr × List Str)}, (∀ n ∈ nmss ms, nameOk n) → oks ms → p.length + deeps ms ≤ 12 → (∀ n ∈ p, nameOk n) → fine r → fine (ms.map (fun m => (m, p)) ++ r)
  | [], _, _, _, _, _, _, h => h
  | m :: ms, p, r, h1, h2, h3, h4, h5 => by
    simp only [oks] at h2
    simp only [deeps] at h3
    refine ⟨⟨fun n hn => h1 n (by simp [nmss, hn]), h2.1, by omega, h4⟩, fine_members (fun n hn => h1 n (by simp [nmss, hn])) h2.2 (by omega) h4 h5⟩
def datQ : List (Tr × List Str) → List PyData
  | [] => []
  | (t, p) :: r => .tuple [t.dat, .tuple (p.map PyData.str)] :: datQ r
theorem queue_dp {K : PySem.W.Frag} {H : Hp} : ∀ {vs : List V} {rs : List (Tr × List Str)}, Queue H vs rs → DpAll K H vs (datQ rs)
  | _, _, .nil => .nil
  | _, (t, p) :: _, .cons h b => by
    obtain ⟨a, pa, x, rfl, h1, h2, h3⟩ := h
    exact .cons (.tup (st_of h1) (.cons (trv_dp t x h2) (.cons (.tup (st_of h3) (dpa_strs p)) .nil))) (queue_dp b)
theorem lay_strs : ∀ {p : List Str}, (∀ n ∈ p, nameOk n) → PyData.canLayAll0 (p.map PyData.str) = true ∧ PyData.depthAll (p.map PyData.str) = 0
  | [], _ => by simp [PyData.canLayAll0, PyData.depthAll]
  | n :: p, h => by
    have i := lay_strs (p := p) (fun m hm => h m (List.mem_cons_of_mem _ hm))
    simp [PyData.canLayAll0, PyData.canLay0, PyData.depthAll, PyData.depth, ok_lay (h n (List.mem_cons_self ..)), i.1, i.2]
theorem queue_lay : ∀ {q : List (Tr × List Str)}, fine q → PyData.canLayAll0 (datQ q) = true ∧ PyData.depthAll (datQ q) ≤ 30
  | [], _ => by simp [datQ, PyData.canLayAll0, PyData.depthAll]
  | (t, p) :: r, h => by
    obtain ⟨⟨h1, h2, h3, h4⟩, h5⟩ := h
    obtain ⟨i1, i2, _⟩ := dat_facts t h1 h2
    obtain ⟨j1, j2⟩ := lay_strs h4
    obtain ⟨k1, k2⟩ := queue_lay h5
    simp only [datQ, PyData.canLayAll0, PyData.canLay0, PyData.depthAll, PyData.depth, i1, j1, k1, j2]
    refine ⟨rfl, ?_⟩
    omega
theorem shaped_queue {q : List (Tr × List Str)} (h : fine q) : SeqAt.shaped (.list (datQ q)) = true := by
  obtain ⟨a, b⟩ := queue_lay h
  have c : PyData.canLay0 (.list (datQ q)) = true := by
    simp only [PyData.canLay0]
    exact a
  have d : PyData.depth (.list (datQ q)) ≤ 64 := by
    simp only [PyData.depth]
    omega
  unfold SeqAt.shaped
  rw [c, decide_eq_true d]
  rfl
theorem ev_neQueue {K : PySem.W.Frag} {σ : L2.St} {H : Hp} {ta : TE} {l : Addr} {vs : List V} {q : List (Tr × List Str)} (ha : Ev ta σ H (.ref l)) (hl : H l = some (.lst vs)) (hq : Queue H vs q) (hf : fine q) : Ev (tOp (rNeD K) ta (tLst tNil)) σ H (.bl (!q.isEmpty)) := by
  refine ev_opL (xs := []) ha (el_lst ea_nil (by decide)) fun p H1 hp e1 H2 e2 Q next => ?_
  refine ⟨.list (datQ q), .list [], .lst (sq_of ((e1.trans e2) _ _ hl)) (queue_dp (hq.tk (TK.ex (e1.trans e2)))), .lst (sq_of (e2 _ _ hp)) .nil, shaped_queue hf, by decide +kernel, ?_⟩
  have e : PyData.eqv (.list (datQ q)) (.list []) = q.isEmpty := by
    simp only [PyData.eqv, eqv_nil]
    cases q <;> rfl
  rw [e]
  exact next H2 (Ex.refl H2)
theorem nodup_rev {α : Type} {l : List α} (h : l.reverse.Nodup) : l.Nodup := by
  unfold List.Nodup at h ⊢
  rw [List.pairwise_reverse] at h
  exact h.imp Ne.symm
theorem s_asgP {te : TE} {D : Ends} {σ : L2.St} {H : Hp} {i : Nat} (h : te σ H fun v H1 => D.nx (σ.set i (some v)) H1) : tAsg te (gName i) D σ H := h
theorem size_pos (t : Tr) : 1 ≤ t.size := by
  cases t <;> simp [Tr.size]
theorem len_sizes : ∀ ts : List Tr, ts.length ≤ sizes ts
  | [] => by simp
  | t :: ts => by
    have := len_sizes ts
    have := size_pos t
    simp only [List.length_cons, sizes]
    omega
theorem len_load : ∀ q : List (Tr × List Str), q.length ≤ loadQ q
  | [] => by simp
  | (t, p) :: q => by
    have := len_load q
    have := size_pos t
    simp only [List.length_cons, loadQ]
    omega
mutual
theorem told_path : ∀ (t : Tr) (p : List Str) (r : Rw), r ∈ t.told p → (∀ x ∈ r.2.2, x ∈ p ∨ x ∈ t.nms) ∧ r.2.2.length ≤ p.length + t.deep
  | .hand n, p, r, h => by
    simp only [Tr.told, List.mem_singleton] at h
    subst h
    exact ⟨fun x hx => Or.inl hx, by simp⟩
  | .grp n b ms, p, r, h => by
    simp only [Tr.told, List.mem_cons] at h
    rcases h with rfl | h
    · exact ⟨fun x hx => Or.inl hx, by simp⟩
    · obtain ⟨h1, h2⟩ := tolds_path ms (n :: p) r h
      refine ⟨fun x hx => ?_, by simp only [List.length_cons, Tr.deep] at h2 ⊢; omega⟩
      rcases h1 x hx with h | h
      · rcases List.mem_cons.mp h with rfl | h
        · exact Or.inr (by simp [Tr.nms])
        · exact Or.inl h
      · exact Or.inr (by simp [Tr.nms, h])
theorem tolds_path : ∀ (ts : List Tr) (p : List Str) (r : Rw), r ∈ tolds ts p → (∀ x ∈ r.2.2, x ∈ p ∨ x ∈ nmss ts) ∧ r.2.2.length ≤ p.length + deeps ts
  | [], p, r, h => by simp [tolds] at h
  | t :: ts, p, r, h => by
    simp only [tolds, List.mem_append] at h
    rcases h with h | h
    · obtain ⟨h1, h2⟩ := told_path t p r h
      refine ⟨fun x hx => ?_, by simp only [deeps]; omega⟩
      rcases h1 x hx with h | h
      · exact Or.inl h
      · exact Or.inr (by simp [nmss, h])
    · obtain ⟨h1, h2⟩ := tolds_path ts p r h
      refine ⟨fun x hx => ?_, by simp only [deeps]; omega⟩
      rcases h1 x hx with h | h
      · exact Or.inl h
      · exact Or.inr (by simp [nmss, h])
end
theorem told_mem {t : Tr} {p : List Str} {r : Rw} (h : r ∈ t.told p) : r.1 ∈ t.nms := by
  rw [← told_nms t p]
  exact List.mem_map.mpr ⟨r, h, rfl⟩
/-- with all names unlike, a row is found by its name -/
theorem find_row {rs : List Rw} (h : (rs.map (·.1)).Nodup) {i : Nat} {r : Rw} (hi : rs[i]? = some r) : rs.find? (fun q => decide (q.1 = r.1)) = some r := by
  refine find_at (fun x hx => ?_) hi (decide_eq_true rfl)
  refine decide_eq_false fun e => ?_
  obtain ⟨j, hj⟩ := List.getElem?_of_mem hx
  have hji : j < i := by
    have := (List.getElem?_eq_some_iff.mp hj).1
    rw [List.length_take] at this
    omega
  have hj2 : rs[j]? = some x := by
    rw [List.getElem?_take_of_lt hji] at hj
    exact hj
  have h1 : (rs.map (·.1))[j]? = some r.1 := by rw [List.getElem?_map, hj2, ← e]; rfl
  have h2 : (rs.map (·.1))[i]? = some r.1 := by rw [List.getElem?_map, hi]; rfl
  have h3 := (List.getElem?_eq_some_iff.mp h1)
  have h4 := (List.getElem?_eq_some_iff.mp h2)
  obtain ⟨l1, g1⟩ := h3
  obtain ⟨l2, g2⟩ := h4
  unfold List.Nodup at h
  exact (List.pairwise_iff_getElem.mp h) j i l1 l2 hji (g1.trans g2.symm)
def rTup (K : PySem.W.Frag) : List V → Hp → VK → Prop := fun xs H Q => ∃ p ys, xs = [.ref p] ∧ ((SqL K H p ys ∧ ∀ l, H l = none → Q (.ref l) (upd H l (.tup ys))) ∨ (SqT K H p ys ∧ Q (.ref p) H))
theorem tupleK {X : Cx} {K : PySem.W.Frag} (h : X.K = K) : CallR X (.type "tuple") (rTup K) := by subst h; exact call_tuple_of
end NL

/-! rows of a plan with the groups' bounds -/
namespace NL
open PySem L2 Evl
/-- name, a group's bound, the groups around it -/
abbrev Rb := Str × Option Int × List Str
def obV : Option Int → V
  | none => .non
  | some b => .int b
mutual
def Tr.rows : Tr → List Str → List Rb
  | .hand n, p => [(n, none, p)]
  | .grp n b ms, p => (n, some b, p) :: rowss ms (n :: p)
def rowss : List Tr → List Str → List Rb
  | [], _ => []
  | t :: ts, p => t.rows p ++ rowss ts p
end
def plainR (r : Rb) : Rw := (r.1, r.2.1.isSome, r.2.2)
mutual
theorem rows_told : ∀ (t : Tr) (p : List Str), (t.rows p).map plainR = t.told p
  | .hand n, p => by simp [Tr.rows, Tr.told, plainR]
  | .grp n b ms, p => by simp [Tr.rows, Tr.told, plainR, rowss_told ms]
theorem rowss_told : ∀ (ts : List Tr) (p : List Str), (rowss ts p).map plainR = tolds ts p
  | [], p => by simp [rowss, tolds]
  | t :: ts, p => by simp [rowss, tolds, rows_told t, rowss_told ts]
end
theorem rows_len (t : Tr) (p : List Str) : (t.rows p).length = t.size := by rw [← told_len t p, ← rows_told, List.length_map]
theorem rowss_len (ts : List Tr) (p : List Str) : (rowss ts p).length = sizes ts := by rw [← tolds_len ts p, ← rowss_told, List.length_map]
theorem rowss_take : ∀ (ts : List Tr) (i : Nat) (t : Tr) (p : List Str), ts[i]? = some t → rowss (ts.take (i + 1)) p = rowss (ts.take i) p ++ t.rows p
  | [], _, _, _, h => by simp at h
  | u :: ts, 0, t, p, h => by
    simp at h
    subst h
    simp [rowss]
  | u :: ts, i + 1, t, p, h => by
    have ih := rowss_take ts i t p (by simpa using h)
    simp only [List.take_succ_cons, rowss]
    rw [ih, List.append_assoc]
/-- a row with its bound, in the heap -/
def RowB (H : Hp) (v : V) (r : Rb) : Prop := ∃ a pa, v = .ref a ∧ H a = some (.tup [.str r.1, obV r.2.1, .ref pa]) ∧ H pa = some (.tup (r.2.2.map V.str))
inductive RowsB (H : Hp) : List V → List Rb → Prop
  | nil : RowsB H [] []
  | cons {v : V} {vs : List V} {r : Rb} {rs : List Rb} : RowB H v r → RowsB H vs rs → RowsB H (v :: vs) (r :: rs)
theorem RowB.tk {H H' : Hp} {v : V} {r : Rb} (k : TK H H') (h : RowB H v r) : RowB H' v r := by
  obtain ⟨a, pa, e, h1, h2⟩ := h
  exact ⟨a, pa, e, k _ _ h1, k _ _ h2⟩
theorem RowsB.tk {H H' : Hp} (k : TK H H') : ∀ {vs : List V} {rs : List Rb}, RowsB H vs rs → RowsB H' vs rs
  | _, _, .nil => .nil
  | _, _, .cons a b => .cons (a.tk k) (b.tk k)
theorem RowsB.app {H : Hp} : ∀ {vs us : List V} {rs qs : List Rb}, RowsB H vs rs → RowsB H us qs → RowsB H (vs ++ us) (rs ++ qs)
  | _, _, _, _, .nil, h => h
  | _, _, _, _, .cons a b, h => .cons a (b.app h)
theorem RowsB.one {H : Hp} {v : V} {r : Rb} (h : RowB H v r) : RowsB H [v] [r] := .cons h .nil
theorem RowsB.len {H : Hp} : ∀ {vs : List V} {rs : List Rb}, RowsB H vs rs → vs.length = rs.length
  | _, _, .nil => rfl
  | _, _, .cons _ t => by rw [List.length_cons, List.length_cons, t.len]
theorem RowsB.get {H : Hp} : ∀ {vs : List V} {rs : List Rb} {i : Nat} {v : V}, RowsB H vs rs → vs[i]? = some v → ∃ r, rs[i]? = some r ∧ RowB H v r
  | _, _, _, _, .nil, e => by simp at e
  | _, _, 0, _, .cons r _, e => by simp at e; subst e; exact ⟨_, rfl, r⟩
  | _, _, i + 1, v, .cons _ t, e => by
    obtain ⟨d, h1, h2⟩ := t.get (i := i) (v := v) (by simpa using e)
    exact ⟨d, by simpa using h1, h2⟩
def handsOf (t : Tr) : List Str := ((t.told []).filter fun r => !r.2.1).map (·.1)
def groupsOf (t : Tr) : List Str := ((t.told []).filter fun r => r.2.1).map (·.1)
theorem hands_rows (t : Tr) : handsOf t = ((t.rows []).filter fun r => !r.2.1.isSome).map (·.1) := by
  unfold handsOf
  rw [← rows_told, List.filter_map, List.map_map]
  rfl
theorem groups_rows (t : Tr) : groupsOf t = ((t.rows []).filter fun r => r.2.1.isSome).map (·.1) := by
  unfold groupsOf
  rw [← rows_told, List.filter_map, List.map_map]
  rfl
theorem find_rows {x : Str} : ∀ {rs : List Rb}, (rs.map plainR).find? (fun r => decide (r.1 = x)) = (rs.find? fun r => decide (r.1 = x)).map plainR
  | [] => rfl
  | r :: rs => by
    rw [List.map_cons, List.find?_cons, List.find?_cons]
    by_cases h : r.1 = x
    · have e : decide ((plainR r).1 = x) = true := decide_eq_true h
      rw [e, decide_eq_true h]
      rfl
    · have e : decide ((plainR r).1 = x) = false := decide_eq_false h
      rw [e, decide_eq_false h]
      exact find_rows
end NL

namespace K04
open PySem L2 Evl NL
def top (i : Nat) : Stmt := PySem.Challenge.pw_nearlocks_k04_hands_groups_and_paths.main.body.getD i (.Pass ⟨0, 0, 0, 0⟩)
abbrev s_hands_of : Stmt := top 4
abbrev s_groups_of : Stmt := top 5
abbrev s_path_of : Stmt := top 6
abbrev s_all_in : Stmt := top 7
abbrev s_all_from : Stmt := top 8
abbrev s__law_hand : Stmt := top 10
abbrev s__law_pick : Stmt := top 11
abbrev s__law_of : Stmt := top 12
abbrev s__law_names : Stmt := top 13
abbrev s__law_group : Stmt := top 14
abbrev s__law_sizes : Stmt := top 15
abbrev s__law_plan : Stmt := top 16
abbrev s__law_told : Stmt := top 17
abbrev s_law : Stmt := top 18
abbrev N_hands_of : List Str := ["plan", "name", "bound", "path"]
theorem sc_hands_of : FnScope N_hands_of ["plan"] (defScope s_hands_of) := ⟨rfl, rfl, rfl, by decide +kernel, rfl, by decide +kernel, by decide +kernel⟩
abbrev N_groups_of : List Str := ["plan", "name", "bound", "path"]
theorem sc_groups_of : FnScope N_groups_of ["plan"] (defScope s_groups_of) := ⟨rfl, rfl, rfl, by decide +kernel, rfl, by decide +kernel, by decide +kernel⟩
abbrev N_path_of : List Str := ["plan", "name", "known", "bound", "path"]
theorem sc_path_of : FnScope N_path_of ["plan", "name"] (defScope s_path_of) := ⟨rfl, rfl, rfl, by decide +kernel, rfl, by decide +kernel, by decide +kernel⟩
abbrev N_all_in : List Str := ["plan"]
theorem sc_all_in : FnScope N_all_in ["plan"] (defScope s_all_in) := ⟨rfl, rfl, rfl, by decide +kernel, rfl, by decide +kernel, by decide +kernel⟩
abbrev N_all_from : List Str := ["group", "around", "name", "bound", "members", "rows", "inside", "member"]
theorem sc_all_from : FnScope N_all_from ["group", "around"] (defScope s_all_from) := ⟨rfl, rfl, rfl, by decide +kernel, rfl, by decide +kernel, by decide +kernel⟩
abbrev N__law_hand : List Str := ["_law_script", "_law_seed", "_law_cell"]
theorem sc__law_hand : FnScope N__law_hand ["_law_script"] (defScope s__law_hand) := ⟨rfl, rfl, rfl, by decide +kernel, rfl, by decide +kernel, by decide +kernel⟩
abbrev N__law_pick : List Str := ["_law_hand_here", "_law_many", "_law_mixed", "_law_digit"]
theorem sc__law_pick : FnScope N__law_pick ["_law_hand_here", "_law_many"] (defScope s__law_pick) := ⟨rfl, rfl, rfl, by decide +kernel, rfl, by decide +kernel, by decide +kernel⟩
abbrev N__law_of : List Str := ["_law_hand_here", "_law_some"]
theorem sc__law_of : FnScope N__law_of ["_law_hand_here", "_law_some"] (defScope s__law_of) := ⟨rfl, rfl, rfl, by decide +kernel, rfl, by decide +kernel, by decide +kernel⟩
abbrev N__law_names : List Str := ["_law_hand_here", "_law_stem", "_law_first", "_law_step", "_law_found", "_law_k", "_law_word", "_law_spot"]
theorem sc__law_names : FnScope N__law_names ["_law_hand_here"] (defScope s__law_names) := ⟨rfl, rfl, rfl, by decide +kernel, rfl, by decide +kernel, by decide +kernel⟩
abbrev N__law_group : List Str := ["_law_hand_here", "_law_names_here", "_law_deep", "_law_wide", "_law_bound", "_law_name", "_law_members", "_law_k"]
theorem sc__law_group : FnScope N__law_group ["_law_hand_here", "_law_names_here", "_law_deep", "_law_wide"] (defScope s__law_group) := ⟨rfl, rfl, rfl, by decide +kernel, rfl, by decide +kernel, by decide +kernel⟩
abbrev N__law_sizes : List Str := []
theorem sc__law_sizes : FnScope N__law_sizes [] (defScope s__law_sizes) := ⟨rfl, rfl, rfl, by decide +kernel, rfl, by decide +kernel, by decide +kernel⟩
abbrev N__law_plan : List Str := ["_law_hand_here", "_law_sizes_here", "_law_deep", "_law_wide"]
theorem sc__law_plan : FnScope N__law_plan ["_law_hand_here", "_law_sizes_here"] (defScope s__law_plan) := ⟨rfl, rfl, rfl, by decide +kernel, rfl, by decide +kernel, by decide +kernel⟩
abbrev N__law_told : List Str := ["_law_plan_here", "_law_found", "_law_waiting", "_law_one", "_law_path", "_law_member"]
theorem sc__law_told : FnScope N__law_told ["_law_plan_here"] (defScope s__law_told) := ⟨rfl, rfl, rfl, by decide +kernel, rfl, by decide +kernel, by decide +kernel⟩
abbrev N_law : List Str := ["_law_script", "_law_hand_here", "_law_turn", "_law_plan_here", "_law_kept", "_law_told_here", "_law_again", "_law_name", "_law_is_one", "_law_path"]
theorem sc_law : FnScope N_law ["_law_script"] (defScope s_law) := ⟨rfl, rfl, rfl, by decide +kernel, rfl, by decide +kernel, by decide +kernel⟩
/-! ### the facts of the top -/
structure Tp (w : World) (K : PySem.W.Frag) (mg : Str → Option Value) where
  f_hands_of : Addr
  d_hands_of : FuncData
  F_hands_of : Fun K "hands_of" "hands_of" s_hands_of f_hands_of d_hands_of
  m_hands_of : mg "hands_of" = some (.ref f_hands_of)
  f_groups_of : Addr
  d_groups_of : FuncData
  F_groups_of : Fun K "groups_of" "groups_of" s_groups_of f_groups_of d_groups_of
  m_groups_of : mg "groups_of" = some (.ref f_groups_of)
  f_path_of : Addr
  d_path_of : FuncData
  F_path_of : Fun K "path_of" "path_of" s_path_of f_path_of d_path_of
  m_path_of : mg "path_of" = some (.ref f_path_of)
  f_all_in : Addr
  d_all_in : FuncData
  F_all_in : Fun K "all_in" "all_in" s_all_in f_all_in d_all_in
  m_all_in : mg "all_in" = some (.ref f_all_in)
  f_all_from : Addr
  d_all_from : FuncData
  F_all_from : Fun K "all_from" "all_from" s_all_from f_all_from d_all_from
  m_all_from : mg "all_from" = some (.ref f_all_from)
  f__law_hand : Addr
  d__law_hand : FuncData
  F__law_hand : Fun K "_law_hand" "_law_hand" s__law_hand f__law_hand d__law_hand
  m__law_hand : mg "_law_hand" = some (.ref f__law_hand)
  f__law_pick : Addr
  d__law_pick : FuncData
  F__law_pick : Fun K "_law_pick" "_law_pick" s__law_pick f__law_pick d__law_pick
  m__law_pick : mg "_law_pick" = some (.ref f__law_pick)
  f__law_of : Addr
  d__law_of : FuncData
  F__law_of : Fun K "_law_of" "_law_of" s__law_of f__law_of d__law_of
  m__law_of : mg "_law_of" = some (.ref f__law_of)
  f__law_names : Addr
  d__law_names : FuncData
  F__law_names : Fun K "_law_names" "_law_names" s__law_names f__law_names d__law_names
  m__law_names : mg "_law_names" = some (.ref f__law_names)
  f__law_group : Addr
  d__law_group : FuncData
  F__law_group : Fun K "_law_group" "_law_group" s__law_group f__law_group d__law_group
  m__law_group : mg "_law_group" = some (.ref f__law_group)
  f__law_sizes : Addr
  d__law_sizes : FuncData
  F__law_sizes : Fun K "_law_sizes" "_law_sizes" s__law_sizes f__law_sizes d__law_sizes
  m__law_sizes : mg "_law_sizes" = some (.ref f__law_sizes)
  f__law_plan : Addr
  d__law_plan : FuncData
  F__law_plan : Fun K "_law_plan" "_law_plan" s__law_plan f__law_plan d__law_plan
  m__law_plan : mg "_law_plan" = some (.ref f__law_plan)
  f__law_told : Addr
  d__law_told : FuncData
  F__law_told : Fun K "_law_told" "_law_told" s__law_told f__law_told d__law_told
  m__law_told : mg "_law_told" = some (.ref f__law_told)
  f_law : Addr
  d_law : FuncData
  F_law : Fun K "law" "law" s_law f_law d_law
  m_law : mg "law" = some (.ref f_law)
  z_all : mg "all" = none
  z_isinstance : mg "isinstance" = none
  z_len : mg "len" = none
  z_range : mg "range" = none
  z_repr : mg "repr" = none
  z_str : mg "str" = none
  z_tuple : mg "tuple" = none
theorem b_hands_of {w : World} {K : PySem.W.Frag} {mg : Str → Option Value} (T : Tp w K mg) : Binds K T.d_hands_of ["plan"] [] := T.F_hands_of.binds fun _ _ _ _ _ _ us hl => match us, hl with | [_], _ => rfl
theorem b_groups_of {w : World} {K : PySem.W.Frag} {mg : Str → Option Value} (T : Tp w K mg) : Binds K T.d_groups_of ["plan"] [] := T.F_groups_of.binds fun _ _ _ _ _ _ us hl => match us, hl with | [_], _ => rfl
theorem b_path_of {w : World} {K : PySem.W.Frag} {mg : Str → Option Value} (T : Tp w K mg) : Binds K T.d_path_of ["plan", "name"] [] := T.F_path_of.binds fun _ _ _ _ _ _ us hl => match us, hl with | [_, _], _ => rfl
theorem b_all_in {w : World} {K : PySem.W.Frag} {mg : Str → Option Value} (T : Tp w K mg) : Binds K T.d_all_in ["plan"] [] := T.F_all_in.binds fun _ _ _ _ _ _ us hl => match us, hl with | [_], _ => rfl
theorem b_all_from {w : World} {K : PySem.W.Frag} {mg : Str → Option Value} (T : Tp w K mg) : Binds K T.d_all_from ["group", "around"] [] := T.F_all_from.binds fun _ _ _ _ _ _ us hl => match us, hl with | [_, _], _ => rfl
theorem b__law_hand {w : World} {K : PySem.W.Frag} {mg : Str → Option Value} (T : Tp w K mg) : Binds K T.d__law_hand ["_law_script"] [] := T.F__law_hand.binds fun _ _ _ _ _ _ us hl => match us, hl with | [_], _ => rfl
theorem b__law_pick {w : World} {K : PySem.W.Frag} {mg : Str → Option Value} (T : Tp w K mg) : Binds K T.d__law_pick ["_law_hand_here", "_law_many"] [] := T.F__law_pick.binds fun _ _ _ _ _ _ us hl => match us, hl with | [_, _], _ => rfl
theorem b__law_of {w : World} {K : PySem.W.Frag} {mg : Str → Option Value} (T : Tp w K mg) : Binds K T.d__law_of ["_law_hand_here", "_law_some"] [] := T.F__law_of.binds fun _ _ _ _ _ _ us hl => match us, hl with | [_, _], _ => rfl
theorem b__law_names {w : World} {K : PySem.W.Frag} {mg : Str → Option Value} (T : Tp w K mg) : Binds K T.d__law_names ["_law_hand_here"] [] := T.F__law_names.binds fun _ _ _ _ _ _ us hl => match us, hl with | [_], _ => rfl
theorem b__law_group {w : World} {K : PySem.W.Frag} {mg : Str → Option Value} (T : Tp w K mg) : Binds K T.d__law_group ["_law_hand_here", "_law_names_here", "_law_deep", "_law_wide"] [] := T.F__law_group.binds fun _ _ _ _ _ _ us hl => match us, hl with | [_, _, _, _], _ => rfl
theorem b__law_sizes {w : World} {K : PySem.W.Frag} {mg : Str → Option Value} (T : Tp w K mg) : Binds K T.d__law_sizes [] [] := T.F__law_sizes.binds fun _ _ _ _ _ _ us hl => match us, hl with | [], _ => rfl
theorem b__law_plan {w : World} {K : PySem.W.Frag} {mg : Str → Option Value} (T : Tp w K mg) : Binds K T.d__law_plan ["_law_hand_here", "_law_sizes_here"] [] := T.F__law_plan.binds fun _ _ _ _ _ _ us hl => match us, hl with | [_, _], _ => rfl
theorem b__law_told {w : World} {K : PySem.W.Frag} {mg : Str → Option Value} (T : Tp w K mg) : Binds K T.d__law_told ["_law_plan_here"] [] := T.F__law_told.binds fun _ _ _ _ _ _ us hl => match us, hl with | [_], _ => rfl
theorem b_law {w : World} {K : PySem.W.Frag} {mg : Str → Option Value} (T : Tp w K mg) : Binds K T.d_law ["_law_script"] [] := T.F_law.binds fun _ _ _ _ _ _ us hl => match us, hl with | [_], _ => rfl

/-! ### the program's rows of a plan -/
def spAF (K : PySem.W.Frag) (d : Nat) : Sp := fun vs H Q _ => ∃ (v : V) (pa : Addr) (n : Str) (b : Int) (ms : List Tr) (p : List Str), vs = [v, .ref pa] ∧ TrV H v (.grp n b ms) ∧ H pa = some (.tup (p.map V.str)) ∧ (Tr.grp n b ms).deep ≤ d ∧ (Tr.grp n b ms).size ≤ 1000 ∧ p.length + d ≤ 1000 ∧
  ∀ r xs H', Ex H H' → H r = none → H' r = some (.lst xs) → RowsB H' xs ((Tr.grp n b ms).rows p) → Q (.ref r) H'
def spAll (K : PySem.W.Frag) : Sp := fun vs H Q _ => ∃ (v : V) (n : Str) (b : Int) (ms : List Tr), vs = [v] ∧ TrV H v (.grp n b ms) ∧ (Tr.grp n b ms).deep ≤ 12 ∧ (Tr.grp n b ms).size ≤ 1000 ∧
  ∀ r xs H', Ex H H' → H r = none → H' r = some (.lst xs) → RowsB H' xs ((Tr.grp n b ms).rows []) → Q (.ref r) H'
def spNames (K : PySem.W.Frag) (f : Tr → List Str) : Sp := fun vs H Q _ => ∃ (v : V) (n : Str) (b : Int) (ms : List Tr), vs = [v] ∧ TrV H v (.grp n b ms) ∧ (Tr.grp n b ms).deep ≤ 12 ∧ (Tr.grp n b ms).size ≤ 1000 ∧
  ∀ a H', Ex H H' → H' a = some (.tup ((f (.grp n b ms)).map V.str)) → Q (.ref a) H'
def spPath (K : PySem.W.Frag) : Sp := fun vs H Q _ => ∃ (v : V) (n : Str) (b : Int) (ms : List Tr) (x : Str) (r : Rw), vs = [v, .str x] ∧ TrV H v (.grp n b ms) ∧ (Tr.grp n b ms).deep ≤ 12 ∧ (Tr.grp n b ms).size ≤ 1000 ∧
  ((Tr.grp n b ms).told []).find? (fun r => decide (r.1 = x)) = some r ∧ ∀ a H', Ex H H' → H' a = some (.tup (r.2.2.map V.str)) → Q (.ref a) H'
section
variable {P : Program} {w : World} {K : PySem.W.Frag} {mg : Str → Option Value} {base : Heap}
theorem af_none (T : Tp w K mg) : FnOk P w K mg base CX0 0 T.f_all_from T.d_all_from ["group", "around"] (spAF K 0) := by
  have no : ∀ vs H Q E, ¬ spAF K 0 vs H Q E := fun vs H Q E h => by
    obtain ⟨v, pa, n, b, ms, p, _, _, _, hd, _⟩ := h
    simp [Tr.deep] at hd
  exact ⟨fun vs H Q E h => (no vs H Q E h).elim, fun A outer s H args us vs Q E _ _ _ _ h => (no vs H Q E h).elim⟩
theorem af_more (T : Tp w K mg) {d : Nat} (ih : FnOk P w K mg base CX0 d T.f_all_from T.d_all_from ["group", "around"] (spAF K d)) : FnOk P w K mg base CX0 (d + 1) T.f_all_from T.d_all_from ["group", "around"] (spAF K (d + 1)) := by
  refine T.F_all_from.ok sc_all_from (fun vs H Q E h => ?_) (fun cdv A outer s H vs Q E hr h => ?_)
  · obtain ⟨v, pa, n, b, ms, p, rfl, _⟩ := h
    rfl
  obtain ⟨v, pa, n, b, ms, p, rfl, hv, hpa, hdeep, hsize, hpl, q⟩ := h
  cases hv with
  | grp h1 h2 h3 =>
  rename_i a m xs
  refine ⟨_, (pss_cons (ps_asg (pv 0) (pg_tup rfl (pgs_cons (pg_name (i := 2) sc_all_from.nd rfl (Or.inl rfl)) (pgs_cons (pg_name (i := 3) sc_all_from.nd rfl (Or.inl rfl)) (pgs_cons (pg_name (i := 4) sc_all_from.nd rfl (Or.inl rfl)) pgs_nil)))))
  (pss_cons (ps_set (i := 5) sc_all_from.nd rfl (Or.inl rfl) (pe_lst (pa_cons (pe_tup (pa_cons (pv 2) (pa_cons (pv 3) (pa_cons (pv 1) pa_nil (star1 rfl)) (star1 rfl)) (star1 rfl))) pa_nil (star1 rfl))))
  (pss_cons (ps_set (i := 6) sc_all_from.nd rfl (Or.inl rfl) (pe_tup (pa_cons (pv 2) (StX.pa_star (pv 1) pa_nil) (star1 rfl))))
  (pss_cons (ps_for PassesOwn.never rfl (pi_tup (pv 4)) (pg_name (i := 7) sc_all_from.nd rfl (Or.inl rfl)) (pss_one (ps_if (pt_val (pe_callB (isiK (K := K) rfl) rfl T.z_isinstance (by decide +kernel) (pa_cons (pv 7) (pa_cons (pe_bltn (v := .ty "str") rfl T.z_str (by decide +kernel) rfl) pa_nil (star1 rfl)) (star1 rfl)) (by decide) (by decide) (star1 rfl) (starAll rfl))) (pss_one (ps_expr (pe_bm PySem.F.plainAttrs_list PySem.F.slot_list_append PySem.F.type_list_append mt_append (pv 5) (pa_cons (pe_tup (pa_cons (pv 7) (pa_cons pe_non (pa_cons (pv 6) pa_nil (star1 rfl)) (star1 rfl)) (star1 rfl))) pa_nil (star1 rfl))))) (pss_one (ps_expr (pe_bm PySem.F.plainAttrs_list PySem.F.slot_list_extend PySem.F.type_list_extend mt_extend (pv 5) (pa_cons (pe_call ih hr rfl T.m_all_from T.F_all_from.kp (b_all_from T) .nil pass0 (pa_cons (pv 7) (pa_cons (pv 6) pa_nil (star1 rfl)) (star1 rfl)) (by decide) (star1 rfl) (starAll rfl)) pa_nil (star1 rfl))))))))
  (pss_one (ps_ret (pv 5))))))), ?_⟩
  -- name, bound, members = group
  refine q_asgG ?_
  refine ⟨_, rfl, a, _, rfl, st_of h1, rfl, _, _, rfl, _, _, rfl, _, _, rfl, rfl, ?_⟩
  -- rows = [(name, bound, around)]
  refine q_asgP ?_
  refine ⟨_, rfl, _, rfl, _, rfl, (by show 3 ≤ sizeLine; decide), fun t1 ht1 => ⟨(by show 1 ≤ sizeLine; decide), fun r hr1 => ?_⟩⟩
  generalize hH1 : upd (upd H t1 (.tup [.str n, .int b, .ref pa])) r (.lst [.ref t1]) = H1
  have e1 : Ex H H1 := by rw [← hH1]; exact (Ex.new ht1).trans (Ex.new hr1)
  have rH : H r = none := fresh_back (Ex.new ht1) hr1
  have hr2 : H1 r = some (.lst [.ref t1]) := by rw [← hH1]; exact upd_same
  have row1 : RowB H1 (.ref t1) (n, some b, p) := ⟨t1, pa, rfl, by rw [← hH1]; exact (Ex.new hr1) _ _ upd_same, e1 _ _ hpa⟩
  -- inside = (name, *around)
  refine q_asgP ?_
  refine ⟨_, rfl, _, rfl, pa, p.map V.str, rfl, Or.inl (st_of (e1 _ _ hpa)), sz_of (by simp; omega), fun ia hia => ?_⟩
  generalize hH2 : upd H1 ia (.tup (V.str n :: (p.map V.str ++ []))) = H2
  have e2 : Ex H1 H2 := by rw [← hH2]; exact Ex.new hia
  have hin : H2 ia = some (.tup ((n :: p).map V.str)) := by
    rw [← hH2, upd_same, List.append_nil]
    rfl
  have e12 := e1.trans e2
  have hdp : deeps ms ≤ d := by simp only [Tr.deep] at hdeep; omega
  have hsz : sizes ms ≤ 1000 := by simp only [Tr.size] at hsize; omega
  -- for member in members
  refine q_forT (K := K) (a := m) (xs := xs) (ev_var rfl) (st_of (e12 _ _ h2)) (fun i σ' H' => Ex H H' ∧ H' ia = some (.tup ((n :: p).map V.str)) ∧ ∃ ys c, σ' = [some (.ref a), some (.ref pa), some (.str n), some (.int b), some (.ref m), some (.ref r), some (.ref ia), c] ∧ H' r = some (.lst ys) ∧ RowsB H' ys ((n, some b, p) :: rowss (ms.take i) (n :: p))) ?_ ?_ ?_ ?_
  · intro H3 e3
    refine ⟨e12.trans e3, e3 _ _ hin, [.ref t1], none, rfl, e3 _ _ (e2 _ _ hr2), ?_⟩
    simp only [List.take_zero, rowss]
    exact RowsB.one (row1.tk (TK.ex (e2.trans e3)))
  · intro i σ' H' _ hP
    exact st_of (hP.1 _ _ h2)
  · intro i x σ' H' hx hP
    obtain ⟨e3, hin3, ys, c, rfl, hr3, hrows⟩ := hP
    obtain ⟨t, ht, tv⟩ := trvs_get h3 hx
    have tv3 := trv_tk (TK.ex e3) t x tv
    have hyl : ys.length ≤ 1001 := by
      have := hrows.len
      simp only [List.length_cons, rowss_len] at this
      have := sizes_take ms i
      omega
    have hstep : (n, some b, p) :: rowss (ms.take (i + 1)) (n :: p) = ((n, some b, p) :: rowss (ms.take i) (n :: p)) ++ t.rows (n :: p) := by
      rw [rowss_take ms i t (n :: p) ht]
      rfl
    refine s_if (et_B (ev_isHand (ev_var rfl) tv3)) (fun hb H4 e4 => ?_) (fun hb H4 e4 => ?_)
    · cases tv3 with
      | hand nm =>
        refine ⟨.ref r, rfl, Or.inl ⟨rfl, ys, sq_of (e4 _ _ hr3)⟩, _, rfl, _, rfl, (by show 3 ≤ sizeLine; decide), fun t2 ht2 => ?_⟩
        refine ⟨r, ys, _, rfl, rfl, (Ex.new ht2) _ _ (e4 _ _ hr3), sz_lt (by omega), ?_⟩
        generalize hH5 : upd H4 t2 (.tup [.str nm, .non, .ref ia]) = H5
        have e5 : Ex H4 H5 := by rw [← hH5]; exact Ex.new ht2
        have hr5 : H5 r = some (.lst ys) := e5 _ _ (e4 _ _ hr3)
        have k5 : TK H5 (upd H5 r (.lst (ys ++ [.ref t2]))) := TK.lst hr5
        refine ⟨Ex.mut ((e3.trans e4).trans e5) rH, k5 _ _ (e5 _ _ (e4 _ _ hin3)), ys ++ [.ref t2], _, rfl, upd_same, ?_⟩
        rw [hstep]
        refine RowsB.tk k5 ((hrows.tk (TK.ex (e4.trans e5))).app (RowsB.one ⟨t2, ia, rfl, by rw [← hH5]; exact upd_same, e5 _ _ (e4 _ _ hin3)⟩))
      | grp _ _ _ => cases hb
    · cases tv3 with
      | hand nm => cases hb
      | grp g1 g2 g3 =>
        rename_i a' m' n' b' xs' ms'
        refine ⟨.ref r, rfl, Or.inl ⟨rfl, ys, sq_of (e4 _ _ hr3)⟩, _, rfl, _, rfl, .ref a', ia, n', b', ms', n :: p, rfl, trv_tk (TK.ex e4) _ _ (.grp g1 g2 g3), e4 _ _ hin3, ?_, ?_, ?_, fun b2 zs H5 e5 hb2 hb5 hrw => ?_⟩
        · have := deeps_mem ht
          omega
        · have := sizes_mem ht
          omega
        · simp only [List.length_cons]
          omega
        have hr5 : H5 r = some (.lst ys) := e5 _ _ (e4 _ _ hr3)
        have hzl := hrw.len
        rw [rows_len] at hzl
        have := sizes_mem ht
        refine ⟨r, b2, ys, zs, rfl, rfl, hr5, hb5, sz_of (by omega), ?_⟩
        have k5 : TK H5 (upd H5 r (.lst (ys ++ zs))) := TK.lst hr5
        refine ⟨Ex.mut ((e3.trans e4).trans e5) rH, k5 _ _ (e5 _ _ (e4 _ _ hin3)), ys ++ zs, _, rfl, upd_same, ?_⟩
        rw [hstep]
        exact RowsB.tk k5 ((hrows.tk (TK.ex (e4.trans e5))).app hrw)
  · intro σ' H' hP
    obtain ⟨e3, hin3, ys, c, rfl, hr3, hrows⟩ := hP
    rw [trvs_len h3, List.take_length] at hrows
    refine s_ret (v := .ref r) (ev_var rfl) fun H4 e4 => q r ys H4 (e3.trans e4) rH (e4 _ _ hr3) ?_
    simp only [Tr.rows]
    exact hrows.tk (TK.ex e4)
theorem af_all (T : Tp w K mg) : ∀ d, FnOk P w K mg base CX0 d T.f_all_from T.d_all_from ["group", "around"] (spAF K d)
  | 0 => af_none T
  | d + 1 => af_more T (af_all T d)
theorem ok_all_from (T : Tp w K mg) : FnOk P w K mg base CX0 12 T.f_all_from T.d_all_from ["group", "around"] (spAF K 12) := af_all T 12
theorem ok_all_in (T : Tp w K mg) : FnOk P w K mg base CX0 13 T.f_all_in T.d_all_in ["plan"] (spAll K) := by
  refine T.F_all_in.ok sc_all_in (fun vs H Q E h => ?_) (fun cdv A outer s H vs Q E hr h => ?_)
  · obtain ⟨v, n, b, ms, rfl, _⟩ := h
    rfl
  obtain ⟨v, n, b, ms, rfl, hv, hd, hs, q⟩ := h
  refine ⟨_, (pss_one (ps_ret (pe_call (ok_all_from T) (hr.mono (by decide)) rfl T.m_all_from T.F_all_from.kp (b_all_from T) .nil pass0 (pa_cons (pv 0) (pa_cons (pe_tup pa_nil) pa_nil (star1 rfl)) (star1 rfl)) (by decide) (star1 rfl) (starAll rfl)))), ?_⟩
  refine s_retP ?_
  refine ⟨_, rfl, (by show 0 ≤ sizeLine; decide), fun t ht => ⟨v, t, n, b, ms, [], rfl, trv_tk (TK.new ht) _ _ hv, upd_same, hd, hs, by decide, fun r xs H' e hr' h1 h2 => ?_⟩⟩
  exact q r xs H' ((Ex.new ht).trans e) (fresh_back (Ex.new ht) hr') h1 h2
end

section
variable {P : Program} {w : World} {K : PySem.W.Frag} {mg : Str → Option Value} {base : Heap}
theorem ok_hands_of (T : Tp w K mg) : FnOk P w K mg base CX0 14 T.f_hands_of T.d_hands_of ["plan"] (spNames K handsOf) := by
  refine T.F_hands_of.ok sc_hands_of (fun vs H Q E h => ?_) (fun cdv A outer s H vs Q E hr h => ?_)
  · obtain ⟨v, n, b, ms, rfl, _⟩ := h
    rfl
  obtain ⟨v, n, b, ms, rfl, hv, hdp, hsz, q⟩ := h
  refine ⟨_, (pss_one (ps_ret (pe_callTy call_tuple_of rfl T.z_tuple (by decide +kernel) (pa_cons (pe_lc (own := [("name", 1), ("bound", 2), ("path", 3)]) (g := gTup K 3 (gCons (gName 1) (gCons (gName 2) (gCons (gName 3) gNil)))) rfl sc_hands_of.nd (pi_list (pe_call (ok_all_in T) (hr.mono (by decide)) rfl T.m_all_in T.F_all_in.kp (b_all_in T) .nil pass0 (pa_cons (pv 0) pa_nil (star1 rfl)) (by decide) (star1 rfl) (starAll rfl))) (blkOk_by (N := N_hands_of) (sc := defScope s_hands_of) (by decide +kernel)) (fun _ _ _ _ _ => (pg_tup rfl (pgs_cons (pg_name (i := 1) sc_hands_of.nd rfl (Or.inl rfl)) (pgs_cons (pg_name (i := 2) sc_hands_of.nd rfl (Or.inl rfl)) (pgs_cons (pg_name (i := 3) sc_hands_of.nd rfl (Or.inl rfl)) pgs_nil))))) (fun _ _ _ _ _ => (pts_one (pt_cmp (pc_isN (pv 2))))) (fun _ _ _ _ _ => (pv 1))) pa_nil (star1 rfl)) (by decide) (by decide) (star1 rfl) (starAll rfl)))), ?_⟩
  refine s_retP ?_
  refine ⟨_, rfl, v, n, b, ms, rfl, hv, hdp, hsz, fun r xs H1 e1 hr1 h1 rows => ⟨r, rfl, ⟨xs, sq_of h1⟩, fun D hD => ?_⟩⟩
  generalize hrs : (Tr.grp n b ms).rows [] = rs at rows
  have hlen : rs.length ≤ 1000 := by rw [← hrs, rows_len]; exact hsz
  have hxl := rows.len
  refine lc_list (K := K) (a := r) (xs := xs) (fun i H' => Ex H1 H' ∧ H' D = some (.lst (((rs.take i).filter fun r => !r.2.1.isSome).map fun r => V.str r.1))) ⟨Ex.new hD, upd_same⟩ (fun i H' _ hP => sq_of (hP.1 _ _ h1)) ?_ ?_
  · intro i x H' hx hP
    obtain ⟨e2, hacc⟩ := hP
    obtain ⟨rw', hrw, a, pa, rfl, ha, hpa⟩ := rows.get hx
    obtain ⟨nm, g, p⟩ := rw'
    refine ⟨a, _, rfl, st_of (e2 _ _ ha), rfl, _, _, rfl, _, _, rfl, _, _, rfl, rfl, rfl, _, rfl, _, rfl, ?_⟩
    have hl2 : (((rs.take i).filter fun r => !r.2.1.isSome).map fun r => V.str r.1).length ≤ 1000 := by
      rw [List.length_map]
      exact Nat.le_trans (List.length_filter_le _ _) (by rw [List.length_take]; omega)
    cases g with
    | none =>
      refine iteT ?_
      refine ⟨_, rfl, _, hacc, sz_lt (by omega), Ex.mut e2 hD, ?_⟩
      rw [upd_same, filter_take hrw]
      simp
    | some bd =>
      refine iteF ?_
      refine ⟨e2, ?_⟩
      rw [hacc, filter_take hrw]
      simp
  · intro H' hP
    obtain ⟨e2, hacc⟩ := hP
    rw [hxl, List.take_length] at hacc
    refine ⟨D, _, rfl, Or.inl ⟨sq_of hacc, fun t ht => ?_⟩⟩
    refine q t _ ((e1.trans e2).trans (Ex.new ht)) ?_
    rw [upd_same]
    rw [hands_rows, hrs, List.map_map]
    rfl
theorem ok_groups_of (T : Tp w K mg) : FnOk P w K mg base CX0 14 T.f_groups_of T.d_groups_of ["plan"] (spNames K groupsOf) := by
  refine T.F_groups_of.ok sc_groups_of (fun vs H Q E h => ?_) (fun cdv A outer s H vs Q E hr h => ?_)
  · obtain ⟨v, n, b, ms, rfl, _⟩ := h
    rfl
  obtain ⟨v, n, b, ms, rfl, hv, hdp, hsz, q⟩ := h
  refine ⟨_, (pss_one (ps_ret (pe_callTy call_tuple_of rfl T.z_tuple (by decide +kernel) (pa_cons (pe_lc (own := [("name", 1), ("bound", 2), ("path", 3)]) (g := gTup K 3 (gCons (gName 1) (gCons (gName 2) (gCons (gName 3) gNil)))) rfl sc_groups_of.nd (pi_list (pe_call (ok_all_in T) (hr.mono (by decide)) rfl T.m_all_in T.F_all_in.kp (b_all_in T) .nil pass0 (pa_cons (pv 0) pa_nil (star1 rfl)) (by decide) (star1 rfl) (starAll rfl))) (blkOk_by (N := N_groups_of) (sc := defScope s_groups_of) (by decide +kernel)) (fun _ _ _ _ _ => (pg_tup rfl (pgs_cons (pg_name (i := 1) sc_groups_of.nd rfl (Or.inl rfl)) (pgs_cons (pg_name (i := 2) sc_groups_of.nd rfl (Or.inl rfl)) (pgs_cons (pg_name (i := 3) sc_groups_of.nd rfl (Or.inl rfl)) pgs_nil))))) (fun _ _ _ _ _ => (pts_one (pt_cmp (pc_notN (pv 2))))) (fun _ _ _ _ _ => (pv 1))) pa_nil (star1 rfl)) (by decide) (by decide) (star1 rfl) (starAll rfl)))), ?_⟩
  refine s_retP ?_
  refine ⟨_, rfl, v, n, b, ms, rfl, hv, hdp, hsz, fun r xs H1 e1 hr1 h1 rows => ⟨r, rfl, ⟨xs, sq_of h1⟩, fun D hD => ?_⟩⟩
  generalize hrs : (Tr.grp n b ms).rows [] = rs at rows
  have hlen : rs.length ≤ 1000 := by rw [← hrs, rows_len]; exact hsz
  have hxl := rows.len
  refine lc_list (K := K) (a := r) (xs := xs) (fun i H' => Ex H1 H' ∧ H' D = some (.lst (((rs.take i).filter fun r => r.2.1.isSome).map fun r => V.str r.1))) ⟨Ex.new hD, upd_same⟩ (fun i H' _ hP => sq_of (hP.1 _ _ h1)) ?_ ?_
  · intro i x H' hx hP
    obtain ⟨e2, hacc⟩ := hP
    obtain ⟨rw', hrw, a, pa, rfl, ha, hpa⟩ := rows.get hx
    obtain ⟨nm, g, p⟩ := rw'
    refine ⟨a, _, rfl, st_of (e2 _ _ ha), rfl, _, _, rfl, _, _, rfl, _, _, rfl, rfl, rfl, _, rfl, _, rfl, ?_⟩
    have hl2 : (((rs.take i).filter fun r => r.2.1.isSome).map fun r => V.str r.1).length ≤ 1000 := by
      rw [List.length_map]
      exact Nat.le_trans (List.length_filter_le _ _) (by rw [List.length_take]; omega)
    cases g with
    | none =>
      refine iteF ?_
      refine ⟨e2, ?_⟩
      rw [hacc, filter_take hrw]
      simp
    | some bd =>
      refine iteT ?_
      refine ⟨_, rfl, _, hacc, sz_lt (by omega), Ex.mut e2 hD, ?_⟩
      rw [upd_same, filter_take hrw]
      simp
  · intro H' hP
    obtain ⟨e2, hacc⟩ := hP
    rw [hxl, List.take_length] at hacc
    refine ⟨D, _, rfl, Or.inl ⟨sq_of hacc, fun t ht => ?_⟩⟩
    refine q t _ ((e1.trans e2).trans (Ex.new ht)) ?_
    rw [upd_same]
    rw [groups_rows, hrs, List.map_map]
    rfl
theorem ok_path_of (T : Tp w K mg) : FnOk P w K mg base CX0 14 T.f_path_of T.d_path_of ["plan", "name"] (spPath K) := by
  refine T.F_path_of.ok sc_path_of (fun vs H Q E h => ?_) (fun cdv A outer s H vs Q E hr h => ?_)
  · obtain ⟨v, n, b, ms, x, r, rfl, _⟩ := h
    rfl
  obtain ⟨v, n, b, ms, x, r0, rfl, hv, hdp, hsz, hfind, q⟩ := h
  refine ⟨_, (pss_cons (ps_if (pt_val (pe_callB (isiK (K := K) rfl) rfl T.z_isinstance (by decide +kernel) (pa_cons (pv 1) (pa_cons (pe_bltn (v := .ty "str") rfl T.z_str (by decide +kernel) rfl) pa_nil (star1 rfl)) (star1 rfl)) (by decide) (by decide) (star1 rfl) (starAll rfl))) (pss_one (ps_for PassesOwn.never rfl (pi_list (pe_call (ok_all_in T) (hr.mono (by decide)) rfl T.m_all_in T.F_all_in.kp (b_all_in T) .nil pass0 (pa_cons (pv 0) pa_nil (star1 rfl)) (by decide) (star1 rfl) (starAll rfl))) (pg_tup rfl (pgs_cons (pg_name (i := 2) sc_path_of.nd rfl (Or.inl rfl)) (pgs_cons (pg_name (i := 3) sc_path_of.nd rfl (Or.inl rfl)) (pgs_cons (pg_name (i := 4) sc_path_of.nd rfl (Or.inl rfl)) pgs_nil)))) (pss_one (ps_if (pt_cmpR op_eq (pv 2) (pv 1) (nomark _)) (pss_one (ps_ret (pv 4))) pss_nil)))) pss_nil)
  (pss_one ps_never)), ?_⟩
  refine q_if (b := true) (et_B (ev_isi (ev_var rfl) (Dp.str x) (kt_str (.str x)))) (fun _ H1 e1 => ?_) (fun h => by cases h)
  unfold tFor iList
  refine ⟨_, rfl, v, n, b, ms, rfl, trv_tk (TK.ex e1) _ _ hv, hdp, hsz, fun r xs H2 e2 hr2 h2 rows => ⟨r, rfl, ⟨xs, sq_of h2⟩, ?_⟩⟩
  rw [← rows_told, find_rows] at hfind
  generalize hrs : (Tr.grp n b ms).rows [] = rs at rows hfind
  have hxl := rows.len
  refine for_list (K := K) (a := r) (xs := xs) (fun i σ' H' => Ex H2 H' ∧ (∀ y ∈ rs.take i, decide (y.1 = x) = false) ∧ ∃ c2 c3 c4, σ' = [some v, some (.str x), c2, c3, c4]) ⟨Ex.refl H2, by simp, none, none, none, rfl⟩ (fun i σ' H' _ hP => sq_of (hP.1 _ _ h2)) ?_ ?_
  · intro i y σ' H' hy hP
    obtain ⟨e3, hno, c2, c3, c4, rfl⟩ := hP
    obtain ⟨rw', hrw, a, pa, rfl, ha, hpa⟩ := rows.get hy
    obtain ⟨nm, g, p⟩ := rw'
    refine ⟨a, _, rfl, st_of (e3 _ _ ha), rfl, _, _, rfl, _, _, rfl, _, _, rfl, rfl, ?_⟩
    refine s_when (et_test (ev_eq (ev_var rfl) (ev_var rfl) rfl)) (fun hb H4 e4 => ?_) (fun hb H4 e4 => ?_)
    · have hn : nm = x := V.str.inj (of_decide_eq_true hb)
      have hf := find_at (p := fun r : Rb => decide (r.1 = x)) hno hrw (decide_eq_true hn)
      rw [hf] at hfind
      cases hfind
      exact s_ret (v := .ref pa) (ev_var rfl) fun H5 e5 => q pa H5 ((((e1.trans e2).trans e3).trans e4).trans e5) ((e3.trans (e4.trans e5)) _ _ hpa)
    · refine ⟨e3.trans e4, ?_, _, _, _, rfl⟩
      intro z hz
      rw [List.take_succ, hrw] at hz
      rcases List.mem_append.mp hz with hz | hz
      · exact hno z hz
      · simp at hz
        subst hz
        exact decide_eq_false fun e => by
          have e' : nm = x := e
          rw [e'] at hb
          simp at hb
  · intro σ' H' hP
    obtain ⟨e3, hno, _⟩ := hP
    rw [hxl, List.take_length] at hno
    rw [find_none hno] at hfind
    cases hfind
end

/-! ### the law's own drawing -/
def spHand (K : PySem.W.Frag) : Sp := fun vs H Q _ => ∃ (a : Addr) (ns : List Int), vs = [.ref a] ∧ SqL K H a (ns.map V.int) ∧ ns.length ≤ 63 ∧ ∀ h l H', Ex H H' → H h = none → H l = none → Hand H' h l → Q (.ref h) H'
def spPick : Sp := fun vs H Q _ => ∃ (h l : Addr) (m : Int), vs = [.ref h, .int m] ∧ Hand H h l ∧ 1 ≤ m ∧ m ≤ 1000000 ∧ ∀ r H', 0 ≤ r → r < m → Hand H' h l → Kp h l H H' → Q (.int r) H'
section
variable {P : Program} {w : World} {K : PySem.W.Frag} {mg : Str → Option Value} {base : Heap}
theorem ok__law_hand (T : Tp w K mg) : FnOk P w K mg base CX0 1 T.f__law_hand T.d__law_hand ["_law_script"] (spHand K) := by
  refine T.F__law_hand.ok sc__law_hand (fun vs H Q E h => ?_) (fun cdv A outer s H vs Q E hr h => ?_)
  · obtain ⟨a, ns, rfl, _⟩ := h
    rfl
  obtain ⟨a, ns, rfl, hs, h63, q⟩ := h
  refine ⟨_, (pss_cons (ps_set (i := 1) sc__law_hand.nd rfl (Or.inl rfl) pe_int)
  (pss_cons (ps_for PassesOwn.never rfl (pi_list (pe_slice sl_list (pv 0) po_none (po_some pe_int))) (pg_name (i := 2) sc__law_hand.nd rfl (Or.inl rfl)) (pss_one (ps_set (i := 1) sc__law_hand.nd rfl (Or.inl rfl) (pe_op op_mod (pe_op op_add (pe_op op_add (pe_op op_mul (pv 1) pe_int) (pe_op op_mod (pv 2) pe_int)) pe_int) pe_int))))
  (pss_one (ps_ret (pe_lst (pa_cons (pe_lc (own := [("_law_cell", 2)]) (g := gName 2) rfl sc__law_hand.nd (pi_list (pe_slice sl_list (pv 0) po_none (po_some pe_int))) (blkOk_by (N := N__law_hand) (sc := defScope s__law_hand) (by decide +kernel)) (fun _ _ _ _ _ => (pg_name (i := 2) sc__law_hand.nd rfl (Or.inl rfl))) (fun _ _ _ _ _ => (pts_one (pt_cmpR op_ge (pv 2) (pe_op op_pow pe_int pe_int) (nomark _)))) (fun _ _ _ _ _ => (pv 2))) (pa_cons (pv 1) pa_nil (star1 rfl)) (star1 rfl))))))), ?_⟩
  obtain ⟨ms, hms, hlen⟩ := cut_ints ns 63
  refine q_asg (v := .int 23) ev_c fun H1 e1 => ?_
  refine q_forNLn (xs := ms.map V.int) (by rw [← hms]; exact el_cut (ev_var rfl) (ex_l e1 hs)) (fun p i σ' H' => Ex H1 H' ∧ H' p = some (.lst (ms.map V.int)) ∧ ∃ sd c, σ' = [some (.ref a), some (.int sd), c] ∧ 0 ≤ sd ∧ sd < 2305843009213693951) ?_ ?_ ?_ ?_
  · intro p H2 hp e2 h2
    exact ⟨e2, h2, 23, none, rfl, by decide, by decide⟩
  · intro p i σ' H' _ hv
    exact sq_of hv.2.1
  · intro p i x σ' H' hx hv
    obtain ⟨e2, hp, sd, c, rfl, h0, h1⟩ := hv
    obtain ⟨n, rfl⟩ : ∃ n, x = .int n := by
      rw [List.getElem?_map] at hx
      cases h : ms[i]? with
      | none => rw [h] at hx; cases hx
      | some n => rw [h] at hx; exact ⟨n, by cases hx; rfl⟩
    refine s_asg (v := .int ((sd * 6364136223846793 + n % 2305843009213693951 + 31) % 2305843009213693951)) (ev_I (by decide) (ev_I0 (ev_I0 (ev_I (Or.inl ⟨by omega, by omega⟩) (ev_var rfl) ev_c) (ev_I (by decide) (ev_var rfl) ev_c)) ev_c) ev_c) fun H3 e3 => ?_
    refine ⟨e2.trans e3, e3 _ _ hp, _, _, rfl, ?_, ?_⟩
    · exact Int.emod_nonneg _ (by decide)
    · exact Int.emod_lt_of_pos _ (by decide)
  · intro p σ' H' hv
    obtain ⟨e2, hp, sd, c, rfl, h0, h1⟩ := hv
    have c := el_lcNL (K := K) (σ := [some (.ref a), some (.int sd), c]) (H := H') (xs := ms.map V.int) (tl := tSl (rSlL K) (tVar 0) tNoPart (tPart (tC (.int 63)))) (t := tTest (tOp (rI0 fun i j => .bl (decide (j ≤ i))) (tVar 2) (tOp (rI CPow fun i j => .int (i ^ j.toNat)) (tC (.int 10)) (tC (.int 18))))) (te := tVar 2) (j := 2) (vs := [2])
      (fun i => decide ((10 : Int) ^ 18 ≤ ms.getD i 0)) (fun i => .int (ms.getD i 0)) (by rw [← hms]; exact el_cut (ev_var rfl) (ex_l (e1.trans e2) hs)) (by rw [List.length_map]; omega) (fun x => rfl) (fun i x H2 e2 hi => ?_) (fun i x H2 e2 hi _ => ?_)
    · obtain ⟨cs, hcs, hcl, hcp⟩ : ∃ cs : List Int, given (ms.map V.int).length (fun i => decide ((10 : Int) ^ 18 ≤ ms.getD i 0)) (fun i => V.int (ms.getD i 0)) = cs.map V.int ∧ cs.length ≤ ms.length ∧ ∀ c ∈ cs, 0 ≤ c := by
        refine ⟨((List.range (ms.map V.int).length).filter fun i => decide ((10 : Int) ^ 18 ≤ ms.getD i 0)).map fun i => ms.getD i 0, ?_, ?_, ?_⟩
        · unfold given
          rw [List.map_map]
          rfl
        · rw [List.length_map]
          exact Nat.le_trans (List.length_filter_le _ _) (by rw [List.length_range, List.length_map]; exact Nat.le_refl _)
        · intro c hc
          obtain ⟨i, hi, rfl⟩ := List.mem_map.mp hc
          have := of_decide_eq_true (List.mem_filter.mp hi).2
          omega
      rw [hcs] at c
      unfold tRet tLst tCons
      refine c H' (Ex.refl H') _ fun l H2 hl e3 hl2 => ?_
      refine ⟨.int sd, rfl, (by show 2 ≤ sizeLine; decide), fun h hh => ?_⟩
      have hx : Ex H H2 := (e1.trans e2).trans e3
      exact q h l _ (hx.trans (Ex.new hh)) (fresh_back hx hh) (fresh_back (e1.trans e2) hl) ⟨cs, sd, upd_same, by rw [upd_ne (ne_of_none hl2 hh)]; exact hl2, h0, h1, by omega, hcp⟩
    · obtain ⟨n, hn, rfl⟩ : ∃ n, ms[i]? = some n ∧ x = .int n := by
        rw [List.getElem?_map] at hi
        cases h : ms[i]? with
        | none => rw [h] at hi; cases hi
        | some n => rw [h] at hi; exact ⟨n, rfl, by cases hi; rfl⟩
      have e : ms.getD i 0 = n := by rw [List.getD_eq_getElem?_getD, hn]; rfl
      rw [e]
      exact et_test (ev_I0 (ev_var rfl) (ev_is (ev_I (C := CPow) ⟨by decide, by decide, by decide⟩ ev_c ev_c) rfl))
    · obtain ⟨n, hn, rfl⟩ : ∃ n, ms[i]? = some n ∧ x = .int n := by
        rw [List.getElem?_map] at hi
        cases h : ms[i]? with
        | none => rw [h] at hi; cases hi
        | some n => rw [h] at hi; exact ⟨n, rfl, by cases hi; rfl⟩
      have e : ms.getD i 0 = n := by rw [List.getD_eq_getElem?_getD, hn]; rfl
      rw [e]
      exact ev_var rfl
theorem ok__law_pick (T : Tp w K mg) : FnOk P w K mg base CX0 1 T.f__law_pick T.d__law_pick ["_law_hand_here", "_law_many"] spPick := by
  refine T.F__law_pick.ok sc__law_pick (fun vs H Q E h => ?_) (fun cdv A outer s H vs Q E hr h => ?_)
  · obtain ⟨h, l, m, rfl, _⟩ := h
    rfl
  obtain ⟨h, l, m, rfl, ⟨cs, sd, A0⟩, m1, m2, q⟩ := h
  refine ⟨_, (pss_cons (ps_while PassesOwn.never (PW.pt (pw_and (pt_cmpR (neDK (K := K) rfl hr.units) (pe_ix ix_list (pv 0) pe_int (fun _ _ => rfl)) (pe_lst pa_nil) (nomark _)) (pw_and1 (pt_cmpR op_eq (pe_ix ix_list (pe_ix ix_list (pv 0) pe_int (fun _ _ => rfl)) pe_int (fun _ _ => rfl)) pe_int (nomark _))))) (pss_one (ps_expr (pe_bm PySem.F.plainAttrs_list PySem.F.slot_list_pop PySem.F.type_list_pop mt_popAt (pe_ix ix_list (pv 0) pe_int (fun _ _ => rfl)) (pa_cons pe_int pa_nil (star1 rfl))))))
  (pss_cons (ps_if (pt_cmpR (neDK (K := K) rfl hr.units) (pe_ix ix_list (pv 0) pe_int (fun _ _ => rfl)) (pe_lst pa_nil) (nomark _)) (pss_cons (ps_set (i := 3) sc__law_pick.nd rfl (Or.inl rfl) (pe_op op_mod (pe_ix ix_list (pe_ix ix_list (pv 0) pe_int (fun _ _ => rfl)) pe_int (fun _ _ => rfl)) (pv 1)))
  (pss_cons (ps_asg (pe_op op_fdiv (pe_ix ix_list (pe_ix ix_list (pv 0) pe_int (fun _ _ => rfl)) pe_int (fun _ _ => rfl)) (pv 1)) (pg_sub (pe_ix ix_list (pv 0) pe_int (fun _ _ => rfl)) pe_int set_list))
  (pss_one (ps_ret (pv 3))))) pss_nil)
  (pss_cons (ps_asg (pe_op op_mod (pe_op op_add (pe_op op_mul (pe_ix ix_list (pv 0) pe_int (fun _ _ => rfl)) pe_int) pe_int) pe_int) (pg_sub (pv 0) pe_int set_list))
  (pss_cons (ps_set (i := 2) sc__law_pick.nd rfl (Or.inl rfl) (pe_op op_fdiv (pe_ix ix_list (pv 0) pe_int (fun _ _ => rfl)) pe_int))
  (pss_one (ps_ret (pe_op op_mod (pe_op op_fdiv (pe_op op_mod (pe_op op_mul (pv 2) (pe_op op_add (pe_op op_mod (pv 2) pe_int) pe_int)) pe_int) pe_int) (pv 1)))))))), ?_⟩
  have at0 : ∀ (σ' : L2.St) {H' : Hp} {cs : List Int} {sd : Int}, σ'[0]? = some (some (.ref h)) → HandAt H' h l cs sd → Ev (tOp (rIxL K) (tVar 0) (tC (.int 0))) σ' H' (.ref l) := fun σ' H' cs sd e A => ev_op (ev_var e) ev_c (rv_ixL (sq_of A.hh) rfl)
  refine q_while (fun n σ' H' => σ' = start N__law_pick [.ref h, .int m] ∧ Kp h l H H' ∧ ∃ cs sd, n = cs.length ∧ HandAt H' h l cs sd) cs.length ⟨rfl, Kp.refl h l H, cs, sd, rfl, A0⟩ ?_
  intro n σ' H' hw
  obtain ⟨rfl, kp, cs, sd, rfl, A⟩ := hw
  refine ⟨!cs.isEmpty && decide (cs.head? = some 0), et_and (et_test (ev_neNil (at0 _ rfl A) A.hl)) fun hne => ?_, fun hb H1 e1 => ?_, fun hb H1 e1 => ?_⟩
  · cases cs with
    | nil => cases hne
    | cons c r =>
      refine et_is (et_test (ev_eq (ev_op (at0 _ rfl A) ev_c (rv_ixL (v := .int c) (sq_of A.hl) (by simp [atI, ixN]))) ev_c rfl)) ?_
      simp
  · cases cs with
    | nil => cases hb
    | cons c r =>
      have A1 := A.ex e1
      refine ⟨fun σ2 H2 => σ2 = start N__law_pick [.ref h, .int m] ∧ Kp h l H H2 ∧ HandAt H2 h l r sd, fun σ2 H2 hn => ?_, ?_⟩
      · exact ⟨r.length, by simp, hn.1, hn.2.1, r, sd, rfl, hn.2.2⟩
      · refine at0 _ rfl A1 H1 (Ex.refl H1) _ fun H2 e2 => ⟨Or.inl ⟨rfl, _, sq_of (e2 _ _ A1.hl)⟩, l, (c :: r).map V.int, 0, 0, .int c, rfl, rfl, e2 _ _ A1.hl, by decide, by decide, ?_, rfl, rfl, ?_, ?_⟩
        · simp [seqIndex?]
        · exact Kp.put (kp.trans (Kp.ex (e1.trans e2))) (Or.inr rfl)
        · have A2 := A1.ex e2
          exact ⟨by rw [upd_ne A2.ne]; exact A2.hh, by rw [upd_same]; simp, A2.lo, A2.hi, by have := A2.few; simp at this; omega, fun c' hc => A2.pos c' (List.mem_cons_of_mem _ hc)⟩
  · have A1 := A.ex e1
    have k1 : Kp h l H H1 := kp.trans (Kp.ex e1)
    refine q_when (et_test (ev_neNil (at0 _ rfl A1) A1.hl)) (fun hne H2 e2 => ?_) (fun hne H2 e2 => ?_)
    · have A2 := A1.ex e2
      cases cs with
      | nil => cases hne
      | cons c r =>
        refine q_asg (v := .int (c % m)) (ev_I (by show (0 : Int) < m; omega) (ev_op (at0 _ rfl A2) ev_c (rv_ixL (v := .int c) (sq_of A2.hl) (by simp [atI, ixN]))) (ev_var rfl)) fun H3 e3 => ?_
        have A3 := A2.ex e3
        refine q_setL (j := 0) (v := .int (c / m)) A3.hl (ev_I (C := CDiv) ⟨by omega, by omega⟩ (ev_op (at0 _ rfl A3) ev_c (rv_ixL (v := .int c) (sq_of A3.hl) (by simp [atI, ixN]))) (ev_var rfl)) (at0 _ rfl A3) ev_c (by simp) fun H4 e4 => ?_
        have A4 := A3.ex e4
        refine s_ret (v := .int (c % m)) (ev_var rfl) fun H5 e5 => ?_
        have hc : 0 ≤ c := A4.pos c (List.mem_cons_self ..)
        have B : HandAt (upd H4 l (.lst (((c :: r).map V.int).set 0 (.int (c / m))))) h l (c / m :: r) sd := ⟨by rw [upd_ne A4.ne]; exact A4.hh, by rw [upd_same]; simp, A4.lo, A4.hi, by have := A4.few; simpa using this, fun c' hc' => by
          rcases List.mem_cons.mp hc' with rfl | h'
          · exact Int.ediv_nonneg hc (by omega)
          · exact A4.pos c' (List.mem_cons_of_mem _ h')⟩
        exact q _ H5 (Int.emod_nonneg _ (by omega)) (Int.emod_lt_of_pos _ (by omega)) ⟨_, _, B.ex e5⟩ ((Kp.put (k1.trans (Kp.ex ((e2.trans e3).trans e4))) (Or.inr rfl)).trans (Kp.ex e5))
    · have A2 := A1.ex e2
      have ev1 : ∀ (σ' : L2.St) {H' : Hp} {cs : List Int} {sd : Int}, σ'[0]? = some (some (.ref h)) → HandAt H' h l cs sd → Ev (tOp (rIxL K) (tVar 0) (tC (.int 1))) σ' H' (.int sd) := fun σ' H' cs sd e A => ev_op (ev_var e) ev_c (rv_ixL (sq_of A.hh) rfl)
      have hlo := A2.lo
      have hhi := A2.hi
      refine q_setL (j := 1) (v := .int ((sd * 3935559000370003 + 2691343689449507) % 2305843009213693951)) A2.hh (ev_I (by decide) (ev_I0 (ev_I (Or.inl ⟨by omega, by omega⟩) (ev1 _ rfl A2) ev_c) ev_c) ev_c) (ev_var rfl) ev_c (by simp) fun H3 e3 => ?_
      have A3 := A2.ex e3
      generalize hs : (sd * 3935559000370003 + 2691343689449507) % 2305843009213693951 = s2
      have s0 : 0 ≤ s2 := by rw [← hs]; exact Int.emod_nonneg _ (by decide)
      have s1 : s2 < 2305843009213693951 := by rw [← hs]; exact Int.emod_lt_of_pos _ (by decide)
      have B : HandAt (upd H3 h (.lst ([V.ref l, .int sd].set 1 (.int s2)))) h l cs s2 := ⟨upd_same, by rw [upd_ne (Ne.symm A3.ne)]; exact A3.hl, s0, s1, A3.few, A3.pos⟩
      refine q_asg (v := .int (s2 / 65537)) (ev_I (C := CDiv) (by constructor <;> decide) (ev1 _ rfl B) ev_c) fun H4 e4 => ?_
      have b1 : s2 / 65537 < 2 ^ 64 := by omega
      have b0 : 0 ≤ s2 / 65537 := by omega
      refine s_ret (ev_I (by show (0 : Int) < m; omega) (ev_I (C := CDiv) (by constructor <;> decide) (ev_I (by decide) (ev_I (C := CMul) (Or.inl ⟨by omega, by omega⟩) (ev_var rfl) (ev_I0 (ev_I (by decide) (ev_var rfl) ev_c) ev_c)) ev_c) ev_c) (ev_var rfl)) fun H5 e5 => ?_
      exact q _ H5 (Int.emod_nonneg _ (by omega)) (Int.emod_lt_of_pos _ (by omega)) ⟨_, _, B.ex (e4.trans e5)⟩ ((Kp.put (k1.trans (Kp.ex (e2.trans e3))) (Or.inl rfl)).trans (Kp.ex (e4.trans e5)))
end

def spOf : Sp := fun vs H Q _ => ∃ (h l : Addr), Hand H h l ∧ ((∃ (a : Addr) (xs : List V), vs = [.ref h, .ref a] ∧ H a = some (.lst xs) ∧ a ≠ h ∧ a ≠ l ∧ 1 ≤ xs.length ∧ xs.length ≤ 1000 ∧ ∀ v H', v ∈ xs → Hand H' h l → Kp h l H H' → Q v H') ∨
  (∃ z : Str, vs = [.ref h, .str z] ∧ 1 ≤ z.length ∧ z.length ≤ 1000 ∧ ∀ c H', c ∈ z.cps.toList → Hand H' h l → Kp h l H H' → Q (.str ⟨#[c]⟩) H'))
theorem of_list {h l a : Addr} {xs : List V} {H : Hp} {Q : VK} {E : XK} (A : Hand H h l) (ha : H a = some (.lst xs)) (n1 : a ≠ h) (n2 : a ≠ l) (l1 : 1 ≤ xs.length) (l2 : xs.length ≤ 1000) (q : ∀ v H', v ∈ xs → Hand H' h l → Kp h l H H' → Q v H') : spOf [.ref h, .ref a] H Q E := ⟨h, l, A, Or.inl ⟨a, xs, rfl, ha, n1, n2, l1, l2, q⟩⟩
theorem of_text {h l : Addr} {z : Str} {H : Hp} {Q : VK} {E : XK} (A : Hand H h l) (l1 : 1 ≤ z.length) (l2 : z.length ≤ 1000) (q : ∀ c H', c ∈ z.cps.toList → Hand H' h l → Kp h l H H' → Q (.str ⟨#[c]⟩) H') : spOf [.ref h, .str z] H Q E := ⟨h, l, A, Or.inr ⟨z, rfl, l1, l2, q⟩⟩
section
variable {P : Program} {w : World} {K : PySem.W.Frag} {mg : Str → Option Value} {base : Heap}
theorem ok__law_of (T : Tp w K mg) : FnOk P w K mg base CX0 2 T.f__law_of T.d__law_of ["_law_hand_here", "_law_some"] spOf := by
  refine T.F__law_of.ok sc__law_of (fun vs H Q E h => ?_) (fun cdv A outer s H vs Q E hr h => ?_)
  · obtain ⟨h, l, A, ⟨a, xs, rfl, _⟩ | ⟨z, rfl, _⟩⟩ := h
    · rfl
    · rfl
  refine ⟨_, (pss_one (ps_ret (pe_ix ix_seq (pv 1) (pe_call (ok__law_pick T) (hr.mono (by decide)) rfl T.m__law_pick T.F__law_pick.kp (b__law_pick T) .nil pass0 (pa_cons (pv 0) (pa_cons (pe_callB call_len rfl T.z_len PySem.boot_len (pa_cons (pv 1) pa_nil (star1 rfl)) (by decide) (by decide) (star1 rfl) (starAll rfl)) pa_nil (star1 rfl)) (star1 rfl)) (by decide) (star1 rfl) (starAll rfl)) (fun _ _ => rfl)))), ?_⟩
  obtain ⟨h, l, A0, ⟨a, xs, rfl, ha, n1, n2, l1, l2, q⟩ | ⟨z, rfl, l1, l2, q⟩⟩ := h
  · refine ⟨_, rfl, _, rfl, _, rfl, .ref a, xs.length, rfl, Or.inl ⟨xs, sq_of ha, rfl⟩, h, l, (xs.length : Int), rfl, A0, by omega, by omega, fun r H' r0 r1 A1 k1 => ?_⟩
    have hi : r.toNat < xs.length := by omega
    refine Or.inl ⟨a, xs, r, xs[r.toNat], rfl, rfl, sq_of (k1 a _ n1 n2 ha), ?_, q _ H' (List.getElem_mem hi) A1 k1⟩
    unfold atI ixN
    rw [if_pos r0, if_pos r1]
    simp [hi]
  · refine ⟨_, rfl, _, rfl, _, rfl, .str z, z.length, rfl, ⟨sz_of (by omega), rfl⟩, h, l, (z.length : Int), rfl, A0, by omega, by omega, fun r H' r0 r1 A1 k1 => ?_⟩
    have hz : z.cps.toList.length = z.length := by simp [Str.length]
    have hi : r.toNat < z.cps.toList.length := by omega
    refine Or.inr (Or.inr ⟨z, r, z.cps.toList[r.toNat], rfl, rfl, sz_of (by omega), ?_, q _ H' (List.getElem_mem hi) A1 k1⟩)
    unfold atI ixN
    rw [if_pos r0, if_pos (by omega)]
    simp [List.getElem?_eq_getElem hi]
end

/-! ### sixty names, all unlike -/
def spNm : Sp := fun vs H Q _ => ∃ (h l : Addr), vs = [.ref h] ∧ Hand H h l ∧ ∀ (f : Addr) (xs : List Str) (H' : Hp), Hand H' h l → Kp h l H H' → H f = none → f ≠ h → f ≠ l → H' f = some (.lst (xs.map V.str)) → xs.length = 60 → xs.Nodup → (∀ s ∈ xs, nameOk s) → Q (.ref f) H'
def alphabet : Str := "abcdefghijklmnopqrstuvwxyz"
theorem alpha_at : ∀ i : Fin 26, alphabet.cps.toList[i.val]? = some (97 + i.val) := by decide +kernel
def nmOf (first step : Int) (stem : List Nat) (k : Nat) : Str := ⟨(spotL ((first + step * (k : Int)) % 60).toNat stem).toArray⟩
theorem nm_inj {first step : Int} {stem : List Nat} (hs : step = 1 ∨ step = 7 ∨ step = 11 ∨ step = 13 ∨ step = 59) : ∀ i j, i < 60 → j < 60 → nmOf first step stem i = nmOf first step stem j → i = j := by
  intro i j hi hj h
  have h1 : spotL ((first + step * (i : Int)) % 60).toNat stem = spotL ((first + step * (j : Int)) % 60).toNat stem := by
    unfold nmOf at h
    simpa using h
  have h2 := spot_inj (by omega) (by omega) h1
  rcases hs with rfl | rfl | rfl | rfl | rfl <;> omega
theorem nm_ok {first step : Int} {stem : List Nat} (hs : ∀ c ∈ stem, 97 ≤ c ∧ c ≤ 122) (hl : stem.length ≤ 6) (k : Nat) : nameOk (nmOf first step stem k) := by
  have h := spot_len ((first + step * (k : Int)) % 60).toNat stem
  have e : (nmOf first step stem k).length = (spotL ((first + step * (k : Int)) % 60).toNat stem).length := by
    unfold nmOf Str.length
    simp
  refine ⟨by omega, by omega, ?_⟩
  unfold nmOf
  simpa using spot_letters (s := ((first + step * (k : Int)) % 60).toNat) hs
theorem joinOnes : ∀ cs : List Nat, TL.joinL [] (cs.map fun c => [c]) = cs
  | [] => rfl
  | [c] => rfl
  | c :: d :: r => by
    have := joinOnes (d :: r)
    simp only [List.map_cons, TL.joinL] at this ⊢
    rw [this]
    rfl
theorem join_signs (cs : List Nat) : (Txt.join "" (cs.map fun c => (⟨#[c]⟩ : Str))).cps.toList = cs := by
  have e : Txt.join "" (cs.map fun c => (⟨#[c]⟩ : Str)) = Str.join "" (cs.map fun c => (⟨#[c]⟩ : Str)) := StrLaws.glued_eq_join _ _
  rw [e]
  have h := TL.tl_join "" (cs.map fun c => (⟨#[c]⟩ : Str))
  have e2 : TL.tl ("" : Str) = [] := by decide +kernel
  rw [e2, List.map_map] at h
  have e3 : (TL.tl ∘ fun c => (⟨#[c]⟩ : Str)) = fun c => [c] := by funext c; rfl
  rw [e3, joinOnes] at h
  exact h
section
variable {K : PySem.W.Frag} {σ : L2.St} {H : Hp} {ta tb : TE}
abbrev rAddS : R2 := fun x y H Q => ∃ i j : Str, x = .str i ∧ y = .str j ∧ i.length + j.length ≤ sizeLine ∧ Q (.str (i ++ j)) H
theorem ev_addS {i j : Str} (ha : Ev ta σ H (.str i)) (hb : Ev tb σ H (.str j)) (hz : i.length + j.length ≤ 100000) : Ev (tOp rAddS ta tb) σ H (.str (i ++ j)) := ev_op ha hb fun H1 _ Q q => ⟨i, j, rfl, rfl, sz_of hz, q H1 (Ex.refl H1)⟩
end
section
variable {P : Program} {w : World} {K : PySem.W.Frag} {mg : Str → Option Value} {base : Heap}
theorem ok__law_names (T : Tp w K mg) : FnOk P w K mg base CX0 3 T.f__law_names T.d__law_names ["_law_hand_here"] spNm := by
  refine T.F__law_names.ok sc__law_names (fun vs H Q E h => ?_) (fun cdv A outer s H vs Q E hr h => ?_)
  · obtain ⟨h, l, rfl, _⟩ := h
    rfl
  obtain ⟨h, l, rfl, A0, q⟩ := h
  refine ⟨_, (pss_cons (ps_set (i := 1) sc__law_names.nd rfl (Or.inl rfl) (pe_join pe_str (pe_lc (own := [("_law_k", 5)]) (g := gName 5) (tt := tYes) rfl sc__law_names.nd (pi_range1 rfl T.z_range (pa_cons (pe_call (ok__law_pick T) (hr.mono (by decide)) rfl T.m__law_pick T.F__law_pick.kp (b__law_pick T) .nil pass0 (pa_cons (pv 0) (pa_cons pe_int pa_nil (star1 rfl)) (star1 rfl)) (by decide) (star1 rfl) (starAll rfl)) pa_nil (star1 rfl))) (blkOk_by (N := N__law_names) (sc := defScope s__law_names) (by decide +kernel)) (fun _ _ _ _ _ => (pg_name (i := 5) sc__law_names.nd rfl (Or.inl rfl))) (fun _ _ _ _ _ => pts_nil) (fun _ _ _ _ _ => (pe_call (ok__law_of T) (hr.mono (by decide)) rfl T.m__law_of T.F__law_of.kp (b__law_of T) .nil pass0 (pa_cons (pv 0) (pa_cons pe_str pa_nil (star1 rfl)) (star1 rfl)) (by decide) (star1 rfl) (starAll rfl))))))
  (pss_cons (ps_par rfl sc__law_names.nd (i := 2) (j := 3) rfl rfl (by decide) rfl rfl (pa_cons (pe_call (ok__law_pick T) (hr.mono (by decide)) rfl T.m__law_pick T.F__law_pick.kp (b__law_pick T) .nil pass0 (pa_cons (pv 0) (pa_cons pe_int pa_nil (star1 rfl)) (star1 rfl)) (by decide) (star1 rfl) (starAll rfl)) (pa_cons (pe_call (ok__law_of T) (hr.mono (by decide)) rfl T.m__law_of T.F__law_of.kp (b__law_of T) .nil pass0 (pa_cons (pv 0) (pa_cons (pe_lst (pa_cons pe_int (pa_cons pe_int (pa_cons pe_int (pa_cons pe_int (pa_cons pe_int pa_nil (star1 rfl)) (star1 rfl)) (star1 rfl)) (star1 rfl)) (star1 rfl))) pa_nil (star1 rfl)) (star1 rfl)) (by decide) (star1 rfl) (starAll rfl)) pa_nil (star1 rfl)) (star1 rfl)) (by rfl))
  (pss_cons (ps_set (i := 4) sc__law_names.nd rfl (Or.inl rfl) (pe_lst pa_nil))
  (pss_cons (ps_for PassesOwn.never rfl (pi_range1 rfl T.z_range (pa_cons pe_int pa_nil (star1 rfl))) (pg_name (i := 5) sc__law_names.nd rfl (Or.inl rfl)) (pss_cons (ps_set (i := 7) sc__law_names.nd rfl (Or.inl rfl) (pe_op op_mod (pe_op op_add (pv 2) (pe_op op_mul (pv 3) (pv 5))) pe_int))
  (pss_one (ps_expr (pe_bm PySem.F.plainAttrs_list PySem.F.slot_list_append PySem.F.type_list_append mt_append (pv 4) (pa_cons (pe_op op_add_str (pe_op op_add_str (pe_ix ix_str pe_str (pe_op op_mod (pv 7) pe_int) (fun _ _ => rfl)) (pe_ix ix_list (pe_lst (pa_cons pe_str (pa_cons pe_str (pa_cons pe_str pa_nil (star1 rfl)) (star1 rfl)) (star1 rfl))) (pe_op op_fdiv (pv 7) pe_int) (fun _ _ => rfl))) (pv 1)) pa_nil (star1 rfl)))))))
  (pss_cons (ps_for PassesOwn.never rfl (pi_tup (pe_tup (pa_cons pe_str (pa_cons pe_str (pa_cons pe_str (pa_cons pe_str (pa_cons pe_str pa_nil (star1 rfl)) (star1 rfl)) (star1 rfl)) (star1 rfl)) (star1 rfl)))) (pg_name (i := 6) sc__law_names.nd rfl (Or.inl rfl)) (pss_one (ps_if (PW.pt (pw_and (pt_cmpR op_eq (pe_call (ok__law_pick T) (hr.mono (by decide)) rfl T.m__law_pick T.F__law_pick.kp (b__law_pick T) .nil pass0 (pa_cons (pv 0) (pa_cons pe_int pa_nil (star1 rfl)) (star1 rfl)) (by decide) (star1 rfl) (starAll rfl)) pe_int (nomark _)) (pw_and1 (pt_cmpR op_notIn_seq (pv 6) (pv 4) (by with_unfolding_all rfl))))) (pss_one (ps_asg (pv 6) (pg_sub (pv 4) (pe_call (ok__law_pick T) (hr.mono (by decide)) rfl T.m__law_pick T.F__law_pick.kp (b__law_pick T) .nil pass0 (pa_cons (pv 0) (pa_cons pe_int pa_nil (star1 rfl)) (star1 rfl)) (by decide) (star1 rfl) (starAll rfl)) set_list))) pss_nil)))
  (pss_one (ps_ret (pv 4)))))))), ?_⟩
  -- the stem
  refine q_asgP ?_
  refine ⟨⟨_, rfl⟩, _, rfl, h, l, 7, rfl, A0, by decide, by decide, fun n H1 n0 n1 A1 kp1 => ⟨n, rfl, by omega, by omega, fun D hD => ?_⟩⟩
  obtain ⟨d1, d2⟩ := A1.fresh hD
  refine lc_range (lo := 0) (n := n.toNat) (fun i H' => Hand H' h l ∧ Kp h l H H' ∧ ∃ cs : List Nat, H' D = some (.lst ((cs.map fun c => (⟨#[c]⟩ : Str)).map V.str)) ∧ cs.length = i ∧ ∀ c ∈ cs, 97 ≤ c ∧ c ≤ 122) ?_ ?_ ?_
  · exact ⟨A1.new hD, kp1.trans (Kp.ex (Ex.new hD)), [], upd_same, rfl, fun c hc => by cases hc⟩
  · intro i H2 hi hP
    obtain ⟨A2, kp2, cs, hacc, hlen, hlet⟩ := hP
    refine ⟨rfl, tYesQ ?_⟩
    refine ⟨_, rfl, of_text (E := E0) A2 (by decide +kernel) (by decide +kernel) fun c H3 hc A3 kp3 => ?_⟩
    refine ⟨_, kp3 D _ d1 d2 hacc, sz_lt (by rw [List.length_map, List.length_map]; omega), A3.upd d1 d2, ?_, cs ++ [c], ?_, ?_, ?_⟩
    · intro a o m1 m2 ha
      have h1 := kp1 a o m1 m2 ha
      rw [upd_ne (fun z => by subst z; rw [hD] at h1; cases h1)]
      exact kp3 a o m1 m2 (kp2 a o m1 m2 ha)
    · rw [upd_same]
      simp
    · rw [List.length_append, hlen] <;> rfl
    · intro c' hc'
      rcases List.mem_append.mp hc' with hc' | hc'
      · exact hlet c' hc'
      · rw [List.mem_singleton.mp hc']
        have hall : ∀ c ∈ ("abdeghinoprstu" : Str).cps.toList, 97 ≤ c ∧ c ≤ 122 := by decide +kernel
        exact hall c hc
  intro H2 hP
  obtain ⟨A2, kp2, cs, hacc, hlen, hlet⟩ := hP
  have hcl : cs.length ≤ 6 := by omega
  refine ⟨_, D, cs.map fun c => (⟨#[c]⟩ : Str), rfl, rfl, Or.inl (sq_of hacc), ?_, ?_⟩
  · have e : ((cs.map fun c => (⟨#[c]⟩ : Str)).map (·.length)).sum = cs.length := by
      rw [List.map_map]
      have : (Str.length ∘ fun c => (⟨#[c]⟩ : Str)) = fun _ : Nat => 1 := by funext c; rfl
      have e2 : (cs.map fun _ : Nat => 1).sum = cs.length := by
        clear hacc hlen hlet hcl
        induction cs with
        | nil => rfl
        | cons c r ih => simp only [List.map_cons, List.sum_cons, List.length_cons, ih]; omega
      exact (congrArg (fun f => (cs.map f).sum) this).trans e2
    rw [e, List.length_map]
    have e0 : ("" : Str).length = 0 := by decide +kernel
    rw [e0]
    omega
  generalize hst : Txt.join "" (cs.map fun c => (⟨#[c]⟩ : Str)) = stem
  have hsc : stem.cps.toList = cs := by rw [← hst]; exact join_signs cs
  have hsl : stem.length ≤ 6 := by
    have : stem.length = stem.cps.toList.length := by simp [Str.length]
    rw [this, hsc]
    exact hcl
  -- first, step
  refine q_parP ?_
  refine ⟨_, rfl, h, l, 60, rfl, A2, by decide, by decide, fun first H3 f0 f1 A3 kp3 => ?_⟩
  refine ⟨_, rfl, (by show 5 ≤ sizeLine; decide), fun p hp => ?_⟩
  obtain ⟨p1, p2⟩ := A3.fresh hp
  refine of_list (E := E0) (A3.new hp) upd_same p1 p2 (by decide) (by decide) fun v H4 hv A4 kp4 => ?_
  obtain ⟨step, rfl, hstep⟩ : ∃ step : Int, v = .int step ∧ (step = 1 ∨ step = 7 ∨ step = 11 ∨ step = 13 ∨ step = 59) := by
    simp only [List.mem_cons, List.not_mem_nil, or_false] at hv
    rcases hv with h | h | h | h | h
    · exact ⟨1, h, by simp⟩
    · exact ⟨7, h, by simp⟩
    · exact ⟨11, h, by simp⟩
    · exact ⟨13, h, by simp⟩
    · exact ⟨59, h, by simp⟩
  have s0 : 0 ≤ step ∧ step ≤ 59 := by omega
  have kp5 : Kp h l H H4 := ((kp2.trans kp3).trans (Kp.ex (Ex.new hp))).trans kp4
  refine ⟨_, _, rfl, ?_⟩
  -- found = []
  refine q_asgP ?_
  refine ⟨(by show 0 ≤ sizeLine; decide), fun f hf => ?_⟩
  obtain ⟨f1', f2'⟩ := A4.fresh hf
  have fH : H f = none := by
    cases hx : H f with
    | none => rfl
    | some o => rw [kp5 f o f1' f2' hx] at hf; cases hf
  generalize hH5 : upd H4 f (.lst []) = H5
  have e5 : Ex H4 H5 := by rw [← hH5]; exact Ex.new hf
  have hf5 : H5 f = some (.lst []) := by rw [← hH5]; exact upd_same
  -- the sixty
  refine q_forR1 (n := 60) (ea_cons ev_c ea_nil) (by decide) (fun i σ' H' => Ex H4 H' ∧ H' f = some (.lst (((List.range i).map (nmOf first step cs)).map V.str)) ∧ ∃ c5 c6 c7, σ' = [some (.ref h), some (.str stem), some (.int first), some (.int step), some (.ref f), c5, c6, c7]) ?_ ?_ ?_
  · intro H6 e6
    exact ⟨e5.trans e6, e6 _ _ hf5, _, _, _, rfl⟩
  · intro i σ' H6 hi hP
    obtain ⟨e6, hf6, c5, c6, c7, rfl⟩ := hP
    generalize hsp : (first + step * (i : Int)) % 60 = spot
    have sp0 : 0 ≤ spot := by rw [← hsp]; exact Int.emod_nonneg _ (by decide)
    have sp1 : spot < 60 := by rw [← hsp]; exact Int.emod_lt_of_pos _ (by decide)
    refine q_asg (v := .int spot) (ev_is (ev_I (by decide) (ev_I0 (ev_var rfl) (ev_I (C := CMul) (Or.inl ⟨by omega, by omega⟩) (ev_var rfl) (ev_var rfl))) ev_c) (by rw [hsp])) fun H7 e7 => ?_
    have hf7 := e7 _ _ hf6
    have ev1 : Ev (tOp rIxS (tC (.str "abcdefghijklmnopqrstuvwxyz")) (tOp (rI (fun _ j => 0 < j) fun i j => .int (i % j)) (tVar 7) (tC (.int 26)))) [some (.ref h), some (.str stem), some (.int first), some (.int step), some (.ref f), some (.int (i : Int)), c6, some (.int spot)] H7 (.str ⟨#[97 + spot.toNat % 26]⟩) := by
      refine ev_op ev_c (ev_I (by decide) (ev_var rfl) ev_c) (rv_ixS (c := 97 + spot.toNat % 26) (by decide +kernel) ?_)
      have h26 : spot % 26 = ((spot.toNat % 26 : Nat) : Int) := by omega
      rw [h26]
      have := alpha_at ⟨spot.toNat % 26, Nat.mod_lt _ (by decide)⟩
      exact atI_nat this
    have ev2 : Ev (tOp (rIxL K) (tLst (tCons (tC (.str "")) (tCons (tC (.str "q")) (tCons (tC (.str "x")) tNil)))) (tOp (rI CDiv fun i j => .int (i / j)) (tVar 7) (tC (.int 26)))) [some (.ref h), some (.str stem), some (.int first), some (.int step), some (.ref f), some (.int (i : Int)), c6, some (.int spot)] H7 (.str ⟨(midOf (spot.toNat / 26)).toArray⟩) := by
      refine ev_opL1 (xs := [.str "", .str "q", .str "x"]) (el_lst (ea_cons ev_c (ea_cons ev_c (ea_cons ev_c ea_nil))) (by decide)) (fun H8 e8 => ev_I (C := CDiv) (by constructor <;> decide) (ev_var rfl) ev_c) (fun p H8 hp8 e8 => rv_ixL (sq_of hp8) ?_)
      have c : spot / 26 = 0 ∨ spot / 26 = 1 ∨ spot / 26 = 2 := by omega
      have hq : spot.toNat / 26 = (spot / 26).toNat := by omega
      rw [hq]
      rcases c with c | c | c <;> rw [c]
      · exact (by decide +kernel : atI [V.str "", V.str "q", V.str "x"] 0 = some (V.str ⟨(midOf (0 : Int).toNat).toArray⟩))
      · exact (by decide +kernel : atI [V.str "", V.str "q", V.str "x"] 1 = some (V.str ⟨(midOf (1 : Int).toNat).toArray⟩))
      · exact (by decide +kernel : atI [V.str "", V.str "q", V.str "x"] 2 = some (V.str ⟨(midOf (2 : Int).toNat).toArray⟩))
    have hml : (midOf (spot.toNat / 26)).length ≤ 1 := by
      unfold midOf
      split
      · simp
      · split <;> simp
    have l1 : (⟨#[97 + spot.toNat % 26]⟩ : Str).length = 1 := rfl
    have l2 : (⟨(midOf (spot.toNat / 26)).toArray⟩ : Str).length ≤ 1 := by simpa [Str.length] using hml
    refine s_app (v := .str (nmOf first step cs i)) hf7 (ev_var rfl) (ev_is (ev_addS (ev_addS ev1 ev2 (by omega)) (ev_var rfl) (by rw [Str.length_append]; omega)) ?_) (by rw [List.length_map, List.length_map, List.length_range]; omega) fun H8 e8 => ?_
    · congr 1
      refine TL.ext_tl ?_
      unfold nmOf
      rw [hsp]
      show ((#[97 + spot.toNat % 26] ++ (midOf (spot.toNat / 26)).toArray) ++ stem.cps).toList = (spotL spot.toNat cs).toArray.toList
      unfold spotL
      simp [← hsc]
    · refine ⟨Ex.mut ((e6.trans e7).trans e8) hf, ?_, _, _, _, rfl⟩
      rw [upd_same, List.range_succ]
      simp
  intro σ' H6 hP
  obtain ⟨e6, hf6, c5, c6, c7, rfl⟩ := hP
  have A6 := A4.ex e6
  -- the words
  refine q_forTu (K := K) (xs := [.str "end", .str "hand", .str "group", .str "let", .str "program"]) (eu_tup (ea_cons ev_c (ea_cons ev_c (ea_cons ev_c (ea_cons ev_c (ea_cons ev_c ea_nil))))) (by decide)) (fun p i σ' H' => H' p = some (.tup [.str "end", .str "hand", .str "group", .str "let", .str "program"]) ∧ Hand H' h l ∧ Kp h l H H' ∧ ∃ xs : List Str, H' f = some (.lst (xs.map V.str)) ∧ xs.length = 60 ∧ xs.Nodup ∧ (∀ s ∈ xs, nameOk s) ∧ ∃ c5 c6 c7, σ' = [some (.ref h), some (.str stem), some (.int first), some (.int step), some (.ref f), c5, c6, c7]) ?_ ?_ ?_ ?_
  · intro p H7 hp e7 hp7
    refine ⟨hp7, A6.ex e7, kp5.trans (Kp.ex (e6.trans e7)), (List.range 60).map (nmOf first step cs), e7 _ _ hf6, by rw [List.length_map, List.length_range], map_nodup (nm_inj hstep), ?_, _, _, _, rfl⟩
    intro s hs
    obtain ⟨k, _, rfl⟩ := List.mem_map.mp hs
    exact nm_ok hlet hcl k
  · intro p i σ' H' _ hP
    exact st_of hP.1
  · intro p i x σ' H7 hx hP
    obtain ⟨hp7, A7, kp7, xs, hf7, hxl, hnd, hok, c5, c6, c7, rfl⟩ := hP
    obtain ⟨wd, rfl, hwd⟩ : ∃ wd : Str, x = .str wd ∧ nameOk wd := by
      have := List.mem_of_getElem? hx
      simp only [List.mem_cons, List.not_mem_nil, or_false] at this
      rcases this with h | h | h | h | h
      · exact ⟨_, h, ⟨by decide +kernel, by decide +kernel, by decide +kernel⟩⟩
      · exact ⟨_, h, ⟨by decide +kernel, by decide +kernel, by decide +kernel⟩⟩
      · exact ⟨_, h, ⟨by decide +kernel, by decide +kernel, by decide +kernel⟩⟩
      · exact ⟨_, h, ⟨by decide +kernel, by decide +kernel, by decide +kernel⟩⟩
      · exact ⟨_, h, ⟨by decide +kernel, by decide +kernel, by decide +kernel⟩⟩
    refine ⟨_, rfl, h, l, 4, rfl, A7, by decide, by decide, fun r H8 r0 r1 A8 kp8 => ?_⟩
    have hf8 := kp8 f _ f1' f2' hf7
    have hp8 := kp_tup A7 kp8 hp7
    refine ⟨rfl, _, rfl, ?_⟩
    refine ite2 (fun c => ?_) (fun c => ?_)
    · refine ⟨_, rfl, _, rfl, f, _, rfl, Or.inl (sq_of hf8), rfl, NL.flat_strs xs, _, rfl, ?_⟩
      refine ite2 (fun c2 => ?_) (fun c2 => ?_)
      · have hni : wd ∉ xs := by
          rw [in_strs] at c2
          simpa using c2
        refine ⟨_, rfl, _, rfl, _, rfl, h, l, 60, rfl, A8, by decide, by decide, fun j H9 j0 j1 A9 kp9 => ?_⟩
        have hf9 := kp9 f _ f1' f2' hf8
        refine ⟨f, xs.map V.str, j, j.toNat, rfl, rfl, hf9, ?_, ?_⟩
        · unfold ixN
          rw [if_pos j0, if_pos (by rw [List.length_map, hxl]; exact j1)]
        · refine ⟨TK.lst hf9 _ _ (kp_tup A8 kp9 hp8), A9.upd f1' f2', ?_, xs.set j.toNat wd, ?_, by rw [List.length_set]; exact hxl, nodup_set hnd hni _, ?_, _, _, _, rfl⟩
          · intro a o m1 m2 ha
            rw [upd_ne (fun z => by subst z; rw [fH] at ha; cases ha)]
            exact ((kp7.trans kp8).trans kp9) a o m1 m2 ha
          · rw [upd_same, List.map_set]
          · intro s hs
            rcases List.mem_or_eq_of_mem_set hs with hs | hs
            · exact hok s hs
            · rw [hs]
              exact hwd
      · exact ⟨hp8, A8, kp7.trans kp8, xs, hf8, hxl, hnd, hok, _, _, _, rfl⟩
    · exact ⟨hp8, A8, kp7.trans kp8, xs, hf8, hxl, hnd, hok, _, _, _, rfl⟩
  · intro p σ' H7 hP
    obtain ⟨hp7, A7, kp7, xs, hf7, hxl, hnd, hok, c5, c6, c7, rfl⟩ := hP
    refine s_ret (v := .ref f) (ev_var rfl) fun H8 e8 => ?_
    exact q f xs H8 (A7.ex e8) (kp7.trans (Kp.ex e8)) fH f1' f2' (e8 _ _ hf7) hxl hnd hok
end

/-! ### a group drawn -/
def spGr (d : Nat) : Sp := fun vs H Q _ => ∃ (h l nm : Addr) (xs : List Str) (w : Nat), vs = [.ref h, .ref nm, .int d, .int w] ∧ Hand H h l ∧ nm ≠ h ∧ nm ≠ l ∧ H nm = some (.lst (xs.map V.str)) ∧ 1 ≤ w ∧ w ≤ 100 ∧ mem (d + 1) w ≤ xs.length ∧ xs.length ≤ 1000 ∧
  ∀ (v : V) (n : Str) (b : Int) (ms : List Tr) (ys : List Str) (H' : Hp), Hand H' h l → Kn h l nm H H' → H' nm = some (.lst (ys.map V.str)) → xs = ys ++ (Tr.grp n b ms).nms.reverse → TrV H' v (.grp n b ms) → (Tr.grp n b ms).ok → (Tr.grp n b ms).deep ≤ d + 1 → (Tr.grp n b ms).size ≤ mem (d + 1) w → Q v H'
section
variable {P : Program} {w : World} {K : PySem.W.Frag} {mg : Str → Option Value} {base : Heap}
theorem gr_step (T : Tp w K mg) {d : Nat} {spR : Sp} (ih : FnOk P w K mg base CX0 (d + 2) T.f__law_group T.d__law_group ["_law_hand_here", "_law_names_here", "_law_deep", "_law_wide"] spR) (hR : ∀ d', d = d' + 1 → spR = spGr d') :
    FnOk P w K mg base CX0 (d + 3) T.f__law_group T.d__law_group ["_law_hand_here", "_law_names_here", "_law_deep", "_law_wide"] (spGr d) := by
  refine T.F__law_group.ok sc__law_group (fun vs H Q E h => ?_) (fun cdv A outer s H vs Q E hr h => ?_)
  · obtain ⟨h, l, nm, xs, w, rfl, _⟩ := h
    rfl
  obtain ⟨h, l, nm, xs, wd, rfl, A0, nh, nl, hnm, w1, w2, hneed, hxl, q⟩ := h
  refine ⟨_, (pss_cons (ps_set (i := 4) sc__law_group.nd rfl (Or.inl rfl) (pe_call (ok__law_of T) (hr.mono (by omega)) rfl T.m__law_of T.F__law_of.kp (b__law_of T) .nil pass0 (pa_cons (pv 0) (pa_cons (pe_lst (pa_cons pe_int (pa_cons pe_int (pa_cons pe_int (pa_cons pe_int (pa_cons (pe_op op_add pe_int (pe_call (ok__law_pick T) (hr.mono (by omega)) rfl T.m__law_pick T.F__law_pick.kp (b__law_pick T) .nil pass0 (pa_cons (pv 0) (pa_cons pe_int pa_nil (star1 rfl)) (star1 rfl)) (by decide) (star1 rfl) (starAll rfl))) (pa_cons pe_int pa_nil (star1 rfl)) (star1 rfl)) (star1 rfl)) (star1 rfl)) (star1 rfl)) (star1 rfl))) pa_nil (star1 rfl)) (star1 rfl)) (by decide) (star1 rfl) (starAll rfl)))
  (pss_cons (ps_par rfl sc__law_group.nd (i := 5) (j := 6) rfl rfl (by decide) rfl rfl (pa_cons (pe_bm0 PySem.F.plainAttrs_list PySem.F.slot_list_pop PySem.F.type_list_pop mt_pop (pv 1)) (pa_cons (pe_lst pa_nil) pa_nil (star1 rfl)) (star1 rfl)) (by rfl))
  (pss_cons (ps_for PassesOwn.never rfl (pi_range1 rfl T.z_range (pa_cons (pe_op op_add pe_int (pe_call (ok__law_pick T) (hr.mono (by omega)) rfl T.m__law_pick T.F__law_pick.kp (b__law_pick T) .nil pass0 (pa_cons (pv 0) (pa_cons (pv 3) pa_nil (star1 rfl)) (star1 rfl)) (by decide) (star1 rfl) (starAll rfl))) pa_nil (star1 rfl))) (pg_name (i := 7) sc__law_group.nd rfl (Or.inl rfl)) (pss_one (ps_if (PW.pt (pw_and (pt_cmpR op_gt (pv 2) pe_int (nomark _)) (pw_and1 (pt_cmpR op_gt (pe_call (ok__law_pick T) (hr.mono (by omega)) rfl T.m__law_pick T.F__law_pick.kp (b__law_pick T) .nil pass0 (pa_cons (pv 0) (pa_cons pe_int pa_nil (star1 rfl)) (star1 rfl)) (by decide) (star1 rfl) (starAll rfl)) pe_int (nomark _))))) (pss_one (ps_expr (pe_bm PySem.F.plainAttrs_list PySem.F.slot_list_append PySem.F.type_list_append mt_append (pv 6) (pa_cons (pe_call ih hr rfl T.m__law_group T.F__law_group.kp (b__law_group T) .nil pass0 (pa_cons (pv 0) (pa_cons (pv 1) (pa_cons (pe_op op_sub (pv 2) pe_int) (pa_cons (pv 3) pa_nil (star1 rfl)) (star1 rfl)) (star1 rfl)) (star1 rfl)) (by decide) (star1 rfl) (starAll rfl)) pa_nil (star1 rfl))))) (pss_one (ps_expr (pe_bm PySem.F.plainAttrs_list PySem.F.slot_list_append PySem.F.type_list_append mt_append (pv 6) (pa_cons (pe_bm0 PySem.F.plainAttrs_list PySem.F.slot_list_pop PySem.F.type_list_pop mt_pop (pv 1)) pa_nil (star1 rfl))))))))
  (pss_one (ps_ret (pe_tup (pa_cons (pv 5) (pa_cons (pv 4) (pa_cons (pe_callTy call_tuple_of rfl T.z_tuple (by decide +kernel) (pa_cons (pv 6) pa_nil (star1 rfl)) (by decide) (by decide) (star1 rfl) (starAll rfl)) pa_nil (star1 rfl)) (star1 rfl)) (star1 rfl)))))))), ?_⟩
  -- bound
  refine q_asgP ?_
  refine ⟨_, rfl, _, rfl, h, l, 40, rfl, A0, by decide, by decide, fun r H1 r0 r1 A1 kp1 => ⟨1, r, rfl, rfl, (by show 6 ≤ sizeLine; decide), fun p hp => ?_⟩⟩
  obtain ⟨p1, p2⟩ := A1.fresh hp
  refine of_list (E := E0) (A1.new hp) upd_same p1 p2 (Nat.le_add_left 1 _) (by simp) fun v H2 hv A2 kp2 => ?_
  obtain ⟨bd, rfl, b1, b2⟩ : ∃ bd : Int, v = .int bd ∧ 1 ≤ bd ∧ bd ≤ 99999999 := by
    simp only [List.mem_cons, List.not_mem_nil, or_false] at hv
    rcases hv with h | h | h | h | h | h
    · exact ⟨1, h, by decide, by decide⟩
    · exact ⟨1, h, by decide, by decide⟩
    · exact ⟨2, h, by decide, by decide⟩
    · exact ⟨3, h, by decide, by decide⟩
    · exact ⟨1 + r, h, by omega, by omega⟩
    · exact ⟨99999999, h, by decide, by decide⟩
  have kp3 : Kp h l H H2 := (kp1.trans (Kp.ex (Ex.new hp))).trans kp2
  have hnm2 := kp3 nm _ nh nl hnm
  have hmp := mem_pos d wd
  have hneed' : 1 + wd * mem d wd ≤ xs.length := hneed
  obtain ⟨xs', n, rfl⟩ := last_of (xs := xs) (by omega)
  have hxl' : wd * mem d wd ≤ xs'.length := by simp at hneed'; omega
  -- name, members
  refine q_parP ?_
  refine ⟨_, rfl, Or.inl ⟨rfl, _, sq_of hnm2⟩, nm, _, .str n, rfl, rfl, hnm2, last_get xs' n, (by show 0 ≤ sizeLine; decide), fun m hm => ⟨_, _, rfl, ?_⟩⟩
  rw [last_drop] at hm ⊢
  have kn0 : Kn h l nm H (upd H2 nm (.lst (xs'.map V.str))) := (Kn.kp kp3).put
  have A3 : Hand (upd H2 nm (.lst (xs'.map V.str))) h l := A2.upd nh nl
  obtain ⟨m1, m2⟩ := A3.fresh hm
  have m3 : m ≠ nm := fun z => by subst z; rw [upd_same] at hm; cases hm
  have mH : H m = none := by
    cases hx : H m with
    | none => rfl
    | some o => rw [kn0 m o m1 m2 m3 hx] at hm; cases hm
  generalize hH3 : upd (upd H2 nm (.lst (xs'.map V.str))) m (.lst []) = H3
  have A4 : Hand H3 h l := by rw [← hH3]; exact A3.new hm
  have kn1 : Kn h l nm H H3 := by rw [← hH3]; exact kn0.mut mH
  have hnm3 : H3 nm = some (.lst (xs'.map V.str)) := by rw [← hH3, upd_ne (Ne.symm m3)]; exact upd_same
  have hm3 : H3 m = some (.lst []) := by rw [← hH3]; exact upd_same
  -- the members
  refine q_forU ?_
  refine ⟨_, rfl, _, rfl, h, l, (wd : Int), rfl, A4, by omega, by omega, fun k H4 k0 k1 A5 kp4 => ⟨1, k, rfl, rfl, 1 + k, rfl, by omega, by omega, ?_⟩⟩
  have hk : (1 + k).toNat ≤ wd := by omega
  refine rng_turns (n := (1 + k).toNat) (fun i σ' H' => Hand H' h l ∧ Kn h l nm H H' ∧ ∃ (ys : List Str) (ts : List Tr) (vs : List V), H' nm = some (.lst (ys.map V.str)) ∧ xs' = ys ++ (nmss ts).reverse ∧ H' m = some (.lst vs) ∧ TrVs H' vs ts ∧ ts.length = i ∧ deeps ts ≤ d ∧ sizes ts ≤ i * mem d wd ∧ oks ts ∧
    ∃ c, σ' = [some (.ref h), some (.ref nm), some (.int d), some (.int wd), some (.int bd), some (.str n), some (.ref m), c]) ?_ ?_ ?_
  · refine ⟨A5, kn1.trans (Kn.kp kp4), xs', [], [], kp4 nm _ nh nl hnm3, by simp [nmss], kp4 m _ m1 m2 hm3, .nil, rfl, by simp [deeps], by simp [sizes], by simp [oks], none, rfl⟩
  · intro i σ' H5 hi hP
    obtain ⟨A6, kn5, ys, ts, vs, hnm5, hxs, hm5, htv, htl, htd, hts, hto, c, rfl⟩ := hP
    have hyl : mem d wd ≤ ys.length := by
      have h1 : xs'.length = ys.length + sizes ts := by rw [hxs, List.length_append, List.length_reverse, nmss_len]
      have h2 : (i + 1) * mem d wd ≤ wd * mem d wd := Nat.mul_le_mul_right _ (by omega)
      have h3 : (i + 1) * mem d wd = i * mem d wd + mem d wd := Nat.succ_mul _ _
      omega
    have hvl : vs.length ≤ 1000 := by rw [trvs_len htv, htl]; omega
    have hsu : (i + 1) * mem d wd = i * mem d wd + mem d wd := Nat.succ_mul _ _
    -- a hand
    have popB : ∀ {D : Ends} {H6 : Hp}, Hand H6 h l → Kp h l H5 H6 → (∀ σ2 H7, (Hand H7 h l ∧ Kn h l nm H H7 ∧ ∃ (ys : List Str) (ts : List Tr) (vs : List V), H7 nm = some (.lst (ys.map V.str)) ∧ xs' = ys ++ (nmss ts).reverse ∧ H7 m = some (.lst vs) ∧ TrVs H7 vs ts ∧ ts.length = i + 1 ∧ deeps ts ≤ d ∧ sizes ts ≤ (i + 1) * mem d wd ∧ oks ts ∧
        ∃ c, σ2 = [some (.ref h), some (.ref nm), some (.int d), some (.int wd), some (.int bd), some (.str n), some (.ref m), c]) → D.nx σ2 H7) →
        tDrop (tBM K "list" rAppend (tVar 6) (tCons (tBM0 K "list" rPop (tVar 1)) tNil)) D [some (.ref h), some (.ref nm), some (.int d), some (.int wd), some (.int bd), some (.str n), some (.ref m), some (.int (0 + (i : Int)))] H6 := by
      intro D H6 A7 kp6 next
      have hnm6 := kp6 nm _ nh nl hnm5
      have hm6 := kp6 m _ m1 m2 hm5
      obtain ⟨ys', y, rfl⟩ := last_of (xs := ys) (by omega)
      refine ⟨.ref m, rfl, Or.inl ⟨rfl, vs, sq_of hm6⟩, _, rfl, Or.inl ⟨rfl, _, sq_of hnm6⟩, nm, _, .str y, rfl, rfl, hnm6, last_get ys' y, ?_⟩
      rw [last_drop]
      have hm7 : upd H6 nm (.lst (ys'.map V.str)) m = some (.lst vs) := by rw [upd_ne m3]; exact hm6
      refine ⟨m, vs, .str y, rfl, rfl, hm7, sz_lt (by omega), next _ _ ⟨(A7.upd nh nl).upd m1 m2, ((kn5.trans (Kn.kp kp6)).put).mut mH, ys', ts ++ [.hand y], vs ++ [.str y], ?_, ?_, upd_same, ?_, ?_, ?_, ?_, ?_, _, rfl⟩⟩
      · rw [upd_ne (Ne.symm m3)]; exact upd_same
      · rw [hxs, nmss_app]; simp [nmss, Tr.nms]
      · have k1 : TK H5 H6 := (Kn.kp kp6 : Kn h l nm H5 H6).tk A6 hnm5
        exact trvs_app (trvs_tk ((k1.trans (TK.lst hnm6)).trans (TK.lst hm7)) _ _ htv) (.cons (.hand y) .nil)
      · rw [List.length_append, htl]; rfl
      · rw [deeps_app]; simp [deeps, Tr.deep]; exact htd
      · rw [sizes_app]; simp [sizes, Tr.size]; omega
      · exact oks_app hto (by simp [oks, Tr.ok])
    refine ⟨_, rfl, (d : Int), 0, rfl, rfl, _, rfl, ?_⟩
    refine ite2 (fun c1 => ?_) (fun c1 => ?_)
    · refine ⟨_, rfl, h, l, 3, rfl, A6, by decide, by decide, fun r5 H6 r50 r51 A7 kp6 => ⟨r5, 0, rfl, rfl, _, rfl, ?_⟩⟩
      refine ite2 (fun c2 => ?_) (fun c2 => ?_)
      · have hd0 : (0 : Int) < (d : Int) := of_decide_eq_true c1
        obtain ⟨d', rfl⟩ : ∃ d', d = d' + 1 := ⟨d - 1, by omega⟩
        have eR := hR d' rfl
        subst eR
        have hnm6 := kp6 nm _ nh nl hnm5
        have hm6 := kp6 m _ m1 m2 hm5
        refine ⟨.ref m, rfl, Or.inl ⟨rfl, vs, sq_of hm6⟩, _, rfl, _, rfl, _, rfl, _, _, rfl, rfl, _, rfl, h, l, nm, ys, wd, ?_, A7, nh, nl, hnm6, w1, w2, hyl, ?_, fun v n' b' ms' zs H7 A8 kn7 hnm7 hys tv tok tdp tsz => ?_⟩
        · have e : ((d' + 1 : Nat) : Int) - 1 = (d' : Int) := by omega
          show [V.ref h, V.ref nm, V.int (((d' + 1 : Nat) : Int) - 1), V.int (wd : Int)] = _
          rw [e]
        · have : xs'.length = ys.length + sizes ts := by rw [hxs, List.length_append, List.length_reverse, nmss_len]
          simp at hxl
          omega
        have hm7 := kn7 m _ m1 m2 m3 hm6
        have k1 : TK H5 H6 := (Kn.kp kp6 : Kn h l nm H5 H6).tk A6 hnm5
        have k2 : TK H6 H7 := kn7.tk A7 hnm6
        refine ⟨m, vs, v, rfl, rfl, hm7, sz_lt (by omega), A8.upd m1 m2, ((kn5.trans (Kn.kp kp6)).trans kn7).mut mH, zs, ts ++ [.grp n' b' ms'], vs ++ [v], ?_, ?_, upd_same, ?_, ?_, ?_, ?_, ?_, _, rfl⟩
        · rw [upd_ne (Ne.symm m3)]; exact hnm7
        · rw [hxs, hys, nmss_app]; simp [nmss]
        · exact trvs_app (trvs_tk ((k1.trans k2).trans (TK.lst hm7)) _ _ htv) (.cons (trv_tk (TK.lst hm7) _ _ tv) .nil)
        · rw [List.length_append, htl]; rfl
        · rw [deeps_app]
          simp only [deeps]
          omega
        · rw [sizes_app]
          simp only [sizes]
          omega
        · exact oks_app hto ⟨tok, by simp [oks]⟩
      · exact popB A7 kp6 (fun σ2 H7 h7 => h7)
    · exact popB A6 (Kp.refl h l H5) (fun σ2 H7 h7 => h7)
  · intro σ' H5 hP
    obtain ⟨A6, kn5, ys, ts, vs, hnm5, hxs, hm5, htv, htl, htd, hts, hto, c, rfl⟩ := hP
    refine s_retP ?_
    refine ⟨_, rfl, _, rfl, _, rfl, m, vs, rfl, Or.inl ⟨sq_of hm5, fun t ht => ⟨(by show 3 ≤ sizeLine; decide), fun a ha => ?_⟩⟩⟩
    have e1 : Ex H5 (upd (upd H5 t (.tup vs)) a (.tup [.str n, .int bd, .ref t])) := (Ex.new ht).trans (Ex.new ha)
    refine q (.ref a) n bd ts ys _ (A6.ex e1) (kn5.trans (Kn.ex e1)) (e1 _ _ hnm5) ?_ (.grp upd_same ((Ex.new ha) _ _ upd_same) (trvs_tk (TK.ex e1) _ _ htv)) ?_ ?_ ?_
    · rw [hxs]; simp [Tr.nms]
    · refine ⟨b1, b2, ?_, hto⟩
      intro z
      rw [z] at htl
      simp at htl
      omega
    · simp only [Tr.deep]
      omega
    · have h2 : (1 + k).toNat * mem d wd ≤ wd * mem d wd := Nat.mul_le_mul_right _ hk
      have h3 : mem (d + 1) wd = 1 + wd * mem d wd := rfl
      simp only [Tr.size]
      omega
end

section
variable {P : Program} {w : World} {K : PySem.W.Frag} {mg : Str → Option Value} {base : Heap}
theorem gr_all (T : Tp w K mg) : ∀ d, FnOk P w K mg base CX0 (d + 3) T.f__law_group T.d__law_group ["_law_hand_here", "_law_names_here", "_law_deep", "_law_wide"] (spGr d)
  | 0 => gr_step T (spR := fun _ _ _ _ => False) ⟨fun _ _ _ _ h => h.elim, fun _ _ _ _ _ _ _ _ _ _ _ _ _ h => h.elim⟩ (fun d' h => by cases h)
  | d + 1 => gr_step T (gr_all T d) (fun d' h => by cases h; rfl)
def spGrA : Sp := fun vs H Q E => ∃ d, d ≤ 7 ∧ spGr d vs H Q E
theorem ok__law_group (T : Tp w K mg) : FnOk P w K mg base CX0 10 T.f__law_group T.d__law_group ["_law_hand_here", "_law_names_here", "_law_deep", "_law_wide"] spGrA :=
  ⟨fun vs H Q E h => by
    obtain ⟨d, _, h⟩ := h
    exact (gr_all (P := P) (base := base) T d).len vs H Q E h, fun A outer s H args us vs Q E hr e0 hb r h => by
    obtain ⟨d, hd, h⟩ := h
    exact ((gr_all T d).mono (by omega)).run A outer s H args us vs Q E hr e0 hb r h⟩
/-- deep and wide, such that the names are enough -/
def sizeOk (v : V) (H : Hp) : Prop := ∃ (t : Addr) (d wd : Nat), v = .ref t ∧ H t = some (.tup [.int d, .int wd]) ∧ d ≤ 7 ∧ 1 ≤ wd ∧ wd ≤ 100 ∧ mem (d + 1) wd ≤ 60
def spSizes : Sp := fun vs H Q _ => vs = [] ∧ ∀ a xs H', Ex H H' → H a = none → H' a = some (.lst xs) → 1 ≤ xs.length → xs.length ≤ 100 → (∀ v ∈ xs, sizeOk v H') → Q (.ref a) H'
def spPlan : Sp := fun vs H Q _ => ∃ (h l sa : Addr) (xs : List V), vs = [.ref h, .ref sa] ∧ Hand H h l ∧ sa ≠ h ∧ sa ≠ l ∧ H sa = some (.lst xs) ∧ 1 ≤ xs.length ∧ xs.length ≤ 100 ∧ (∀ v ∈ xs, sizeOk v H) ∧
  ∀ (v : V) (n : Str) (b : Int) (ms : List Tr) (H' : Hp), Hand H' h l → Kp h l H H' → TrV H' v (.grp n b ms) → (Tr.grp n b ms).ok → (Tr.grp n b ms).deep ≤ 8 → (Tr.grp n b ms).size ≤ 60 → (Tr.grp n b ms).nms.Nodup → (∀ x ∈ (Tr.grp n b ms).nms, nameOk x) → Q v H'
theorem ok__law_plan (T : Tp w K mg) : FnOk P w K mg base CX0 11 T.f__law_plan T.d__law_plan ["_law_hand_here", "_law_sizes_here"] spPlan := by
  refine T.F__law_plan.ok sc__law_plan (fun vs H Q E h => ?_) (fun cdv A outer s H vs Q E hr h => ?_)
  · obtain ⟨h, l, sa, xs, rfl, _⟩ := h
    rfl
  obtain ⟨h, l, sa, xs, rfl, A0, n1, n2, hsa, x1, x2, hxs, q⟩ := h
  refine ⟨_, (pss_cons (ps_asg (pe_call (ok__law_of T) (hr.mono (by decide)) rfl T.m__law_of T.F__law_of.kp (b__law_of T) .nil pass0 (pa_cons (pv 0) (pa_cons (pv 1) pa_nil (star1 rfl)) (star1 rfl)) (by decide) (star1 rfl) (starAll rfl)) (pg_tup rfl (pgs_cons (pg_name (i := 2) sc__law_plan.nd rfl (Or.inl rfl)) (pgs_cons (pg_name (i := 3) sc__law_plan.nd rfl (Or.inl rfl)) pgs_nil))))
  (pss_one (ps_ret (pe_call (ok__law_group T) (hr.mono (by decide)) rfl T.m__law_group T.F__law_group.kp (b__law_group T) .nil pass0 (pa_cons (pv 0) (pa_cons (pe_call (ok__law_names T) (hr.mono (by decide)) rfl T.m__law_names T.F__law_names.kp (b__law_names T) .nil pass0 (pa_cons (pv 0) pa_nil (star1 rfl)) (by decide) (star1 rfl) (starAll rfl)) (pa_cons (pv 2) (pa_cons (pv 3) pa_nil (star1 rfl)) (star1 rfl)) (star1 rfl)) (star1 rfl)) (by decide) (star1 rfl) (starAll rfl))))), ?_⟩
  refine q_asgG ?_
  refine ⟨_, rfl, _, rfl, of_list (E := E0) A0 hsa n1 n2 x1 (by omega) fun v H1 hv A1 kp1 => ?_⟩
  obtain ⟨t, d, wd, rfl, ht, d7, w1, w2, hm⟩ := hxs v hv
  refine ⟨t, _, rfl, st_of (kp_tup A0 kp1 ht), rfl, _, _, rfl, _, _, rfl, rfl, ?_⟩
  refine s_retP ?_
  refine ⟨_, rfl, _, rfl, h, l, rfl, A1, fun f ns H2 A2 kp2 hf f1 f2 hf2 nl nd nok => ?_⟩
  refine ⟨_, rfl, _, rfl, d, d7, h, l, f, ns, wd, rfl, A2, f1, f2, hf2, w1, w2, by omega, by omega, fun v n b ms ys H3 A3 kn3 hys hns tv tok tdp tsz => ?_⟩
  have hsub : ∀ x ∈ (Tr.grp n b ms).nms, x ∈ ns := fun x hx => by
    rw [hns]
    exact List.mem_append_right _ (List.mem_reverse.mpr hx)
  refine q v n b ms H3 A3 ?_ tv tok (by omega) (by omega) ?_ (fun x hx => nok x (hsub x hx))
  · intro a o m1 m2 ha
    refine kn3 a o m1 m2 (fun z => ?_) (kp2 a o m1 m2 (kp1 a o m1 m2 ha))
    subst z
    rw [kp1 a o m1 m2 ha] at hf
    cases hf
  · rw [hns] at nd
    have := (List.nodup_append.mp nd).2.1
    exact nodup_rev this
def spTold (K : PySem.W.Frag) : Sp := fun vs H Q _ => ∃ (v : V) (n : Str) (b : Int) (ms : List Tr), vs = [v] ∧ TrV H v (.grp n b ms) ∧ (Tr.grp n b ms).ok ∧ (Tr.grp n b ms).deep ≤ 12 ∧ (Tr.grp n b ms).size ≤ 1000 ∧ (∀ x ∈ (Tr.grp n b ms).nms, nameOk x) ∧
  ∀ r xs H', Ex H H' → H' r = some (.lst xs) → Rows H' xs ((Tr.grp n b ms).told []) → Q (.ref r) H'
theorem ok__law_told (T : Tp w K mg) : FnOk P w K mg base CX0 1 T.f__law_told T.d__law_told ["_law_plan_here"] (spTold K) := by
  refine T.F__law_told.ok sc__law_told (fun vs H Q E h => ?_) (fun cdv A outer s H vs Q E hr h => ?_)
  · obtain ⟨v, n, b, ms, rfl, _⟩ := h
    rfl
  obtain ⟨v, n, b, ms, rfl, hv, hok, hdp, hsz, hnm, q⟩ := h
  generalize hT : Tr.grp n b ms = tr at hv hok hdp hsz hnm q
  refine ⟨_, (pss_cons (ps_par rfl sc__law_told.nd (i := 1) (j := 2) rfl rfl (by decide) rfl rfl (pa_cons (pe_lst pa_nil) (pa_cons (pe_lst (pa_cons (pe_tup (pa_cons (pv 0) (pa_cons (pe_tup pa_nil) pa_nil (star1 rfl)) (star1 rfl))) pa_nil (star1 rfl))) pa_nil (star1 rfl)) (star1 rfl)) (by rfl))
  (pss_cons (ps_while PassesOwn.never (pt_cmpR (neDK (K := K) rfl hr.units) (pv 2) (pe_lst pa_nil) (nomark _)) (pss_cons (ps_asg (pe_bm PySem.F.plainAttrs_list PySem.F.slot_list_pop PySem.F.type_list_pop mt_popAt (pv 2) (pa_cons pe_int pa_nil (star1 rfl))) (pg_tup rfl (pgs_cons (pg_name (i := 3) sc__law_told.nd rfl (Or.inr rfl)) (pgs_cons (pg_name (i := 4) sc__law_told.nd rfl (Or.inr rfl)) pgs_nil))))
  (pss_one (ps_if (pt_val (pe_callB (isiK (K := K) rfl) rfl T.z_isinstance (by decide +kernel) (pa_cons (pv 3) (pa_cons (pe_bltn (v := .ty "str") rfl T.z_str (by decide +kernel) rfl) pa_nil (star1 rfl)) (star1 rfl)) (by decide) (by decide) (star1 rfl) (starAll rfl))) (pss_one (ps_expr (pe_bm PySem.F.plainAttrs_list PySem.F.slot_list_append PySem.F.type_list_append mt_append (pv 1) (pa_cons (pe_tup (pa_cons (pv 3) (pa_cons pe_bl (pa_cons (pv 4) pa_nil (star1 rfl)) (star1 rfl)) (star1 rfl))) pa_nil (star1 rfl))))) (pss_cons (ps_expr (pe_bm PySem.F.plainAttrs_list PySem.F.slot_list_append PySem.F.type_list_append mt_append (pv 1) (pa_cons (pe_tup (pa_cons (pe_ix (ixTK (K := K) rfl) (pv 3) pe_int (fun _ _ => rfl)) (pa_cons pe_bl (pa_cons (pv 4) pa_nil (star1 rfl)) (star1 rfl)) (star1 rfl))) pa_nil (star1 rfl))))
  (pss_one (ps_set (i := 2) sc__law_told.nd rfl (Or.inl rfl) (pe_op op_cat (pe_lc (own := [("_law_member", 5)]) (g := gName 5) (tt := tYes) rfl sc__law_told.nd (pi_tup (pe_ix (ixTK (K := K) rfl) (pv 3) pe_int (fun _ _ => rfl))) (blkOk_by (N := N__law_told) (sc := defScope s__law_told) (by decide +kernel)) (fun _ _ _ _ _ => (pg_name (i := 5) sc__law_told.nd rfl (Or.inl rfl))) (fun _ _ _ _ _ => pts_nil) (fun _ _ _ _ _ => (pe_tup (pa_cons (pv 5) (pa_cons (pe_op (catAK (K := K) rfl) (pe_tup (pa_cons (pe_ix (ixTK (K := K) rfl) (pv 3) pe_int (fun _ _ => rfl)) pa_nil (star1 rfl))) (pv 4)) pa_nil (star1 rfl)) (star1 rfl))))) (pv 2)))))))))
  (pss_one (ps_ret (pv 1))))), ?_⟩
  refine q_parP ?_
  refine ⟨(by show 0 ≤ sizeLine; decide), fun f hf => ⟨_, rfl, (by show 0 ≤ sizeLine; decide), fun pa hpa => ⟨(by show 2 ≤ sizeLine; decide), fun w0 hw0 => ⟨(by show 1 ≤ sizeLine; decide), fun wl hwl => ⟨_, _, rfl, ?_⟩⟩⟩⟩⟩
  generalize hH1 : upd (upd (upd (upd H f (.lst [])) pa (.tup [])) w0 (.tup [v, .ref pa])) wl (.lst [.ref w0]) = H1
  have eA : Ex H (upd H f (.lst [])) := Ex.new hf
  have eB : Ex (upd H f (.lst [])) (upd (upd H f (.lst [])) pa (.tup [])) := Ex.new hpa
  have eC : Ex (upd (upd H f (.lst [])) pa (.tup [])) (upd (upd (upd H f (.lst [])) pa (.tup [])) w0 (.tup [v, .ref pa])) := Ex.new hw0
  have eD : Ex (upd (upd (upd H f (.lst [])) pa (.tup [])) w0 (.tup [v, .ref pa])) H1 := by rw [← hH1]; exact Ex.new hwl
  have e1 : Ex H H1 := ((eA.trans eB).trans eC).trans eD
  have hf1 : H1 f = some (.lst []) := ((eB.trans eC).trans eD) _ _ upd_same
  have hpa1 : H1 pa = some (.tup (([] : List Str).map V.str)) := (eC.trans eD) _ _ upd_same
  have hw1 : H1 w0 = some (.tup [v, .ref pa]) := eD _ _ upd_same
  have hwl1 : H1 wl = some (.lst [.ref w0]) := by rw [← hH1]; exact upd_same
  have wlH : H wl = none := fresh_back ((eA.trans eB).trans eC) hwl
  have fwl : f ≠ wl := fun z => by
    subst z
    rw [(eB.trans eC) _ _ upd_same] at hwl
    cases hwl
  refine q_while (fun m σ' H' => Ex H H' ∧ ∃ (fs ws : List V) (wl : Addr) (rs : List Rw) (qs : List (Tr × List Str)) (c3 c4 c5 : Option V), σ' = [some v, some (.ref f), some (.ref wl), c3, c4, c5] ∧ H wl = none ∧ f ≠ wl ∧ H' f = some (.lst fs) ∧ H' wl = some (.lst ws) ∧ Rows H' fs rs ∧ Queue H' ws qs ∧ rs ++ due qs = tr.told [] ∧ fine qs ∧ loadQ qs = m ∧ rs.length + loadQ qs ≤ 1000) tr.size ?_ ?_
  · refine ⟨e1, [], [.ref w0], wl, [], [(tr, [])], none, none, none, rfl, wlH, fwl, hf1, hwl1, .nil, .cons ⟨w0, pa, v, rfl, hw1, trv_tk (TK.ex e1) _ _ hv, hpa1⟩ .nil, by simp [due], ⟨⟨hnm, hok, by simp; exact hdp, fun n h => by cases h⟩, trivial⟩, by simp [loadQ], by simp [loadQ]; exact hsz⟩
  intro m σ' H2 hW
  obtain ⟨e2, fs, ws, wl, rs, qs, c3, c4, c5, rfl, wlH, fwl, hf2, hwl2, hrows, hq, hdue, hfine, rfl, hbig⟩ := hW
  refine ⟨!qs.isEmpty, et_test (ev_neQueue (ev_var rfl) hwl2 hq hfine), fun hb H3 e3 => ?_, fun hb H3 e3 => ?_⟩
  · cases hq with
    | nil => cases hb
    | cons hx hrest =>
      rename_i x ws' r qs'
      obtain ⟨t, p⟩ := r
      obtain ⟨xa, xp, xt, rfl, hxa, hxt, hxp⟩ := hx
      simp only at hxt hxp
      obtain ⟨⟨g1, g2, g3, g4⟩, hfine'⟩ := hfine
      have hload : loadQ ((t, p) :: qs') = t.size + loadQ qs' := rfl
      refine ⟨fun σ2 H' => Ex H H' ∧ ∃ (fs ws : List V) (wl : Addr) (rs : List Rw) (qs2 : List (Tr × List Str)) (c3 c4 c5 : Option V), σ2 = [some v, some (.ref f), some (.ref wl), c3, c4, c5] ∧ H wl = none ∧ f ≠ wl ∧ H' f = some (.lst fs) ∧ H' wl = some (.lst ws) ∧ Rows H' fs rs ∧ Queue H' ws qs2 ∧ rs ++ due qs2 = tr.told [] ∧ fine qs2 ∧ loadQ qs2 + 1 = loadQ ((t, p) :: qs') ∧ rs.length + loadQ qs2 ≤ 1000, fun σ2 H' hN => ?_, ?_⟩
      · obtain ⟨a1, fs, ws, wl, rs, qs2, c3, c4, c5, a2, a3, a4, a5, a6, a7, a8, a9, a10, a11, a12⟩ := hN
        exact ⟨loadQ qs2, by omega, a1, fs, ws, wl, rs, qs2, c3, c4, c5, a2, a3, a4, a5, a6, a7, a8, a9, a10, rfl, a12⟩
      refine q_asgG ?_
      refine ⟨.ref wl, rfl, Or.inl ⟨rfl, _, sq_of (e3 _ _ hwl2)⟩, wl, .ref xa :: ws', 0, 0, .ref xa, rfl, rfl, e3 _ _ hwl2, by decide, by decide, by simp [seqIndex?], rfl, ?_⟩
      generalize hH4 : upd H3 wl (.lst ((V.ref xa :: ws').eraseIdx 0)) = H4
      have hwl4 : H4 wl = some (.lst ws') := by rw [← hH4, upd_same]; rfl
      have k4 : TK H2 H4 := by rw [← hH4]; exact (TK.ex e3).trans (TK.lst (e3 _ _ hwl2))
      have e4 : Ex H H4 := by rw [← hH4]; exact Ex.mut (e2.trans e3) wlH
      have hf4 : H4 f = some (.lst fs) := by rw [← hH4, upd_ne fwl]; exact e3 _ _ hf2
      refine ⟨xa, _, rfl, st_of (k4 _ _ hxa), rfl, _, _, rfl, _, _, rfl, rfl, ?_⟩
      have tv4 : TrV H4 xt t := trv_tk k4 _ _ hxt
      have hxp4 := k4 _ _ hxp
      have hfl := hrows.len
      have fH : H f = none := hf
      refine s_if (et_B (ev_isHand (ev_var rfl) tv4)) (fun hb H5 e5 => ?_) (fun hb H5 e5 => ?_)
      · cases tv4 with
        | hand nm =>
          refine ⟨.ref f, rfl, Or.inl ⟨rfl, fs, sq_of (e5 _ _ hf4)⟩, _, rfl, _, rfl, (by show 3 ≤ sizeLine; decide), fun t2 ht2 => ?_⟩
          generalize hH6 : upd H5 t2 (.tup [.str nm, .bl false, .ref xp]) = H6
          have e6 : Ex H5 H6 := by rw [← hH6]; exact Ex.new ht2
          have hf6 : H6 f = some (.lst fs) := e6 _ _ (e5 _ _ hf4)
          refine ⟨f, fs, .ref t2, rfl, rfl, hf6, sz_lt (by omega), ?_⟩
          have k7 : TK H6 (upd H6 f (.lst (fs ++ [.ref t2]))) := TK.lst hf6
          have k27 : TK H2 (upd H6 f (.lst (fs ++ [.ref t2]))) := (k4.trans (TK.ex (e5.trans e6))).trans k7
          refine ⟨Ex.mut ((e4.trans e5).trans e6) fH, fs ++ [.ref t2], ws', wl, rs ++ [(nm, false, p)], qs', _, _, _, rfl, wlH, fwl, upd_same, ?_, ?_, hrest.tk k27, ?_, hfine', ?_, ?_⟩
          · rw [upd_ne (Ne.symm fwl)]; exact e6 _ _ (e5 _ _ hwl4)
          · exact (hrows.tk k27).app (Rows.one (RowT.tk k7 ⟨t2, xp, rfl, by rw [← hH6]; exact upd_same, e6 _ _ (e5 _ _ hxp4)⟩))
          · rw [← hdue]; simp [due, Tr.told]
          · simp [loadQ, Tr.size]; omega
          · simp [loadQ, Tr.size] at hbig ⊢; omega
        | grp _ _ _ => cases hb
      · cases tv4 with
        | hand nm => cases hb
        | @grp a' m' n' b' xs' ms' z1 z2 z3 =>
          have i0 : ∀ {H' : Hp} (σ' : L2.St), Ex H4 H' → σ'[3]? = some (some (.ref a')) → Ev (tOp (rIxT K) (tVar 3) (tC (.int 0))) σ' H' (.str n') := fun σ' e hσ => ev_ixT (v := .str n') (ev_var hσ) ev_c (st_of (e _ _ z1)) rfl
          refine q_dropP ?_
          refine ⟨.ref f, rfl, Or.inl ⟨rfl, fs, sq_of (e5 _ _ hf4)⟩, ?_⟩
          refine i0 _ e5 rfl H5 (Ex.refl H5) _ fun H5' e5' => ?_
          have e55 := e5.trans e5'
          refine ⟨_, rfl, (by show 3 ≤ sizeLine; decide), fun t2 ht2 => ?_⟩
          generalize hH6 : upd H5' t2 (.tup [.str n', .bl true, .ref xp]) = H6
          have e6 : Ex H5' H6 := by rw [← hH6]; exact Ex.new ht2
          have hf6 : H6 f = some (.lst fs) := e6 _ _ (e55 _ _ hf4)
          refine ⟨f, fs, .ref t2, rfl, rfl, hf6, sz_lt (by omega), ?_⟩
          generalize hH7 : upd H6 f (.lst (fs ++ [.ref t2])) = H7
          have k7 : TK H6 H7 := by rw [← hH7]; exact TK.lst hf6
          have e7 : Ex H H7 := by rw [← hH7]; exact Ex.mut ((e4.trans e55).trans e6) fH
          have hf7 : H7 f = some (.lst (fs ++ [.ref t2])) := by rw [← hH7]; exact upd_same
          have hwl7 : H7 wl = some (.lst ws') := by rw [← hH7, upd_ne (Ne.symm fwl)]; exact e6 _ _ (e55 _ _ hwl4)
          have k47 : TK H4 H7 := (TK.ex (e55.trans e6)).trans k7
          have y1 := k47 _ _ z1
          have y2 := k47 _ _ z2
          have y3 := trvs_tk k47 _ _ z3
          have hxp7 := k47 _ _ hxp4
          have row2 : RowT H7 (.ref t2) (n', true, p) := RowT.tk k7 ⟨t2, xp, rfl, by rw [← hH6]; exact upd_same, e6 _ _ (e55 _ _ hxp4)⟩
          -- the members ahead of what waits
          have hps : p.length + 1 + deeps ms' ≤ 12 := by simp only [Tr.deep] at g3; omega
          refine s_asgP ?_
          refine ⟨_, rfl, a', _, 2, .ref m', rfl, rfl, st_of y1, rfl, m', rfl, ⟨xs', st_of y2⟩, fun D0 hD0 => ?_⟩
          refine lc_tup (K := K) (a := m') (xs := xs') (fun i H' => Ex H7 H' ∧ ∃ acc, H' D0 = some (.lst acc) ∧ Queue H' acc ((ms'.take i).map fun m => (m, n' :: p))) ⟨Ex.new hD0, [], upd_same, by simp; exact .nil⟩ (fun i H' _ hP => st_of (hP.1 _ _ y2)) ?_ ?_
          · intro i x H8 hx hP
            obtain ⟨e8, acc, hacc, hqa⟩ := hP
            obtain ⟨tm, htm, tvm⟩ := trvs_get y3 hx
            have hal : acc.length ≤ 1000 := by
              rw [hqa.len, List.length_map, List.length_take]
              have := (List.getElem?_eq_some_iff.mp htm).1
              have h3 := len_sizes ms'
              simp [loadQ, Tr.size] at hbig
              omega
            refine ⟨rfl, tYesQ ?_⟩
            have fin : ∀ (pp : Addr) (H9 : Hp), Ex H8 H9 → H9 pp = some (.tup ((n' :: p).map V.str)) → ([x, V.ref pp] : List V).length ≤ sizeLine ∧ ∀ t3, H9 t3 = none → ∃ acc', upd H9 t3 (.tup [x, .ref pp]) D0 = some (.lst acc') ∧ acc'.length < sizeLine ∧ (Ex H7 (upd (upd H9 t3 (.tup [x, .ref pp])) D0 (.lst (acc' ++ [.ref t3]))) ∧ ∃ acc2, upd (upd H9 t3 (.tup [x, .ref pp])) D0 (.lst (acc' ++ [.ref t3])) D0 = some (.lst acc2) ∧ Queue (upd (upd H9 t3 (.tup [x, .ref pp])) D0 (.lst (acc' ++ [.ref t3]))) acc2 ((ms'.take (i + 1)).map fun m => (m, n' :: p))) := by
              intro pp H9 e9 hpp
              refine ⟨(by show 2 ≤ sizeLine; decide), fun t3 ht3 => ?_⟩
              have hacc9 : upd H9 t3 (.tup [x, .ref pp]) D0 = some (.lst acc) := (Ex.new ht3) _ _ (e9 _ _ hacc)
              have k9 : TK H8 (upd H9 t3 (.tup [x, .ref pp])) := TK.ex (e9.trans (Ex.new ht3))
              have k10 : TK (upd H9 t3 (.tup [x, .ref pp])) (upd (upd H9 t3 (.tup [x, .ref pp])) D0 (.lst (acc ++ [.ref t3]))) := TK.lst hacc9
              refine ⟨acc, hacc9, sz_lt (by omega), Ex.mut ((e8.trans e9).trans (Ex.new ht3)) hD0, acc ++ [.ref t3], upd_same, ?_⟩
              rw [List.take_succ, htm, List.map_append]
              refine Queue.app (hqa.tk (k9.trans k10)) (.cons (QV.tk k10 ⟨t3, pp, x, rfl, upd_same, ?_, (Ex.new ht3) _ _ hpp⟩) .nil)
              exact trv_tk ((TK.ex e8).trans k9) _ _ tvm
            refine ⟨x, rfl, _, rfl, a', _, 0, .str n', rfl, rfl, st_of (e8 _ _ y1), rfl, (by show 1 ≤ sizeLine; decide), fun l1 hl1 => ?_⟩
            refine ⟨_, rfl, l1, xp, [.str n'], p.map V.str, rfl, rfl, st_of upd_same, st_of ((Ex.new hl1) _ _ (e8 _ _ hxp7)), sz_of (by simp; omega), (fun z => by cases z), fun _ z => ?_, fun _ _ l2 hl2 => ?_⟩
            · have hp0 : p = [] := by simpa using z
              exact fin l1 _ (Ex.new hl1) (by rw [upd_same, hp0]; rfl)
            · exact fin l2 _ ((Ex.new hl1).trans (Ex.new hl2)) (by rw [upd_same]; rfl)
          · intro H8 hP
            obtain ⟨e8, acc, hacc, hqa⟩ := hP
            rw [trvs_len y3, List.take_length] at hqa
            have h3 := len_sizes ms'
            have h4 := len_load qs'
            have hbig' := hbig
            simp [loadQ, Tr.size] at hbig'
            have hal : acc.length ≤ 1000 := by
              rw [hqa.len, List.length_map]
              omega
            have hwl' : ws'.length ≤ 1000 := by
              rw [hrest.len]
              omega
            refine ⟨.ref wl, rfl, D0, wl, acc, ws', rfl, rfl, hacc, e8 _ _ hwl7, sz_of (by omega), fun nw hnw => ?_⟩
            have e9 : Ex H8 (upd H8 nw (.lst (acc ++ ws'))) := Ex.new hnw
            have k29 : TK H2 (upd H8 nw (.lst (acc ++ ws'))) := ((k4.trans k47).trans (TK.ex e8)).trans (TK.ex e9)
            refine ⟨(e7.trans e8).trans e9, fs ++ [.ref t2], acc ++ ws', nw, rs ++ [(n', true, p)], (ms'.map fun m => (m, n' :: p)) ++ qs', _, _, _, rfl, fresh_back (e7.trans e8) hnw, ?_, (e8.trans e9) _ _ hf7, upd_same, ?_, ?_, ?_, ?_, ?_, ?_⟩
            · intro z
              subst z
              rw [e8 _ _ hf7] at hnw
              cases hnw
            · exact (hrows.tk k29).app (Rows.one (row2.tk (TK.ex (e8.trans e9))))
            · exact Queue.app (hqa.tk (TK.ex e9)) (hrest.tk k29)
            · rw [← hdue, due_members]
              simp [due, Tr.told]
            · simp only [Tr.ok] at g2
              refine fine_members (fun m hm => g1 m (by simp [Tr.nms, hm])) g2.2.2.2 (by simp only [List.length_cons]; omega) ?_ hfine'
              intro m hm
              rcases List.mem_cons.mp hm with rfl | hm
              · exact g1 _ (by simp [Tr.nms])
              · exact g4 m hm
            · rw [loadQ_members]; simp [loadQ, Tr.size]; omega
            · rw [loadQ_members]; simp [loadQ, Tr.size] at hbig ⊢; omega
  · have hq0 : qs = [] := by
      cases qs with
      | nil => rfl
      | cons _ _ => cases hb
    subst hq0
    refine s_ret (v := .ref f) (ev_var rfl) fun H4 e4 => q f fs H4 ((e2.trans e3).trans e4) ((e3.trans e4) _ _ hf2) ?_
    have : rs = tr.told [] := by rw [← hdue]; simp [due]
    rw [← this]
    exact hrows.tk (TK.ex (e3.trans e4))
end

section
variable {σ : L2.St} {H : Hp} {tr : TA}
def SA (n : Nat) (ta : TA) (σ : L2.St) (H : Hp) : Prop := ∀ H1, Ex H H1 → ∀ Q : List V → Hp → Prop, (∀ vs H2, Ex H1 H2 → vs.length = n → (∀ v ∈ vs, sizeOk v H2) → Q vs H2) → ta σ H1 Q
theorem sizeOk.ex {v : V} {H H' : Hp} (h : sizeOk v H) (e : Ex H H') : sizeOk v H' := by
  obtain ⟨t, d, wd, h1, h2, h3⟩ := h
  exact ⟨t, d, wd, h1, e _ _ h2, h3⟩
theorem sa_nil : SA 0 tNil σ H := fun H1 _ Q q => q [] H1 (Ex.refl H1) rfl (fun v h => by cases h)
theorem sa_cons {n : Nat} (d wd : Nat) (d7 : d ≤ 7) (w1 : 1 ≤ wd) (w2 : wd ≤ 100) (hm : mem (d + 1) wd ≤ 60) (hr : SA n tr σ H) : SA (n + 1) (tCons (tTup (tCons (tC (.int d)) (tCons (tC (.int wd)) tNil))) tr) σ H := fun H1 e Q q =>
  ⟨(by show 2 ≤ sizeLine; decide), fun t ht => hr _ (e.trans (Ex.new ht)) _ fun vs H3 e3 hl hvs => q (.ref t :: vs) H3 ((Ex.new ht).trans e3) (by rw [List.length_cons, hl]) fun v hv => by
    rcases List.mem_cons.mp hv with rfl | hv
    · exact ⟨t, d, wd, rfl, e3 _ _ upd_same, d7, w1, w2, hm⟩
    · exact hvs v hv⟩
end
section
variable {P : Program} {w : World} {K : PySem.W.Frag} {mg : Str → Option Value} {base : Heap}
theorem ok__law_sizes (T : Tp w K mg) : FnOk P w K mg base CX0 1 T.f__law_sizes T.d__law_sizes [] spSizes := by
  refine T.F__law_sizes.ok sc__law_sizes (fun vs H Q E h => ?_) (fun cdv A outer s H vs Q E hr h => ?_)
  · obtain ⟨rfl, _⟩ := h
    rfl
  obtain ⟨rfl, q⟩ := h
  refine ⟨_, (pss_one (ps_ret (pe_lst (pa_cons (pe_tup (pa_cons pe_int (pa_cons pe_int pa_nil (star1 rfl)) (star1 rfl))) (pa_cons (pe_tup (pa_cons pe_int (pa_cons pe_int pa_nil (star1 rfl)) (star1 rfl))) (pa_cons (pe_tup (pa_cons pe_int (pa_cons pe_int pa_nil (star1 rfl)) (star1 rfl))) (pa_cons (pe_tup (pa_cons pe_int (pa_cons pe_int pa_nil (star1 rfl)) (star1 rfl))) (pa_cons (pe_tup (pa_cons pe_int (pa_cons pe_int pa_nil (star1 rfl)) (star1 rfl))) (pa_cons (pe_tup (pa_cons pe_int (pa_cons pe_int pa_nil (star1 rfl)) (star1 rfl))) pa_nil (star1 rfl)) (star1 rfl)) (star1 rfl)) (star1 rfl)) (star1 rfl)) (star1 rfl))))), ?_⟩
  refine s_retP ?_
  have sa : SA 6 _ (start N__law_sizes []) H := sa_cons 2 3 (by decide) (by decide) (by decide) (by decide) (sa_cons 3 2 (by decide) (by decide) (by decide) (by decide) (sa_cons 1 5 (by decide) (by decide) (by decide) (by decide) (sa_cons 7 1 (by decide) (by decide) (by decide) (by decide) (sa_cons 0 39 (by decide) (by decide) (by decide) (by decide) (sa_cons 0 2 (by decide) (by decide) (by decide) (by decide) sa_nil)))))
  refine sa H (Ex.refl H) _ fun vs H2 e2 hl hvs => ⟨sz_of (by omega), fun a ha => ?_⟩
  exact q a vs _ (e2.trans (Ex.new ha)) (fresh_back e2 ha) upd_same (by omega) (by omega) fun v hv => (hvs v hv).ex (Ex.new ha)
end
def spLaw (K : PySem.W.Frag) : Sp := fun vs H Q _ => ∃ (a : Addr) (ns : List Int), vs = [.ref a] ∧ SqL K H a (ns.map V.int) ∧ ns.length ≤ 63 ∧ ∀ H', Q (.bl true) H'
section
variable {K : PySem.W.Frag} {σ : L2.St} {H : Hp}
theorem ep_names {f : Tr → List Str} {i : Nat} {pa : Addr} {n : Str} {b : Int} {ms : List Tr} (hσ : σ[i]? = some (some (.ref pa))) (tv : TrV H (.ref pa) (.grp n b ms)) (hd : (Tr.grp n b ms).deep ≤ 12) (hs : (Tr.grp n b ms).size ≤ 1000) : EvP (tCall (spNames K f) [] E0 (tCons (tVar i) tNil)) σ H ((f (.grp n b ms)).map V.str) := fun H1 e Q q =>
  ⟨_, hσ, .ref pa, n, b, ms, rfl, trv_tk (TK.ex e) _ _ tv, hd, hs, fun a H' e' ha => q a H' e' ha⟩
/-- tuple([name for name, is_one, path in rows if ..]) -/
theorem ep_told {c7 c8 c9 : Option V} {v0 v1 v2 v3 v4 v6 : Option V} {r : Addr} {xs : List V} {rs : List Rw} {tt : TT} (g : Rw → Bool) (hr : H r = some (.lst xs)) (rows : Rows H xs rs) (hl : rs.length ≤ 1000)
    (test : ∀ (q : Rw) (pa : Addr) (H1 : Hp) (Q : Bool → Hp → Prop), Q (g q) H1 → tt [v0, v1, v2, v3, v4, some (.ref r), v6, some (.str q.1), some (.bl q.2.1), some (.ref pa)] H1 Q) :
    EvP (tCB (rTup K) (tCons (tLc (iList K (tVar 5)) (gTup K 3 (gCons (gName 7) (gCons (gName 8) (gCons (gName 9) gNil)))) tt (tVar 7) [7, 8, 9]) tNil)) [v0, v1, v2, v3, v4, some (.ref r), v6, c7, c8, c9] H (((rs.filter g).map (·.1)).map V.str) := fun H1 e1 Q q => by
  refine ⟨_, rfl, r, rfl, ⟨xs, sq_of (e1 _ _ hr)⟩, fun D hD => ?_⟩
  have hxl := rows.len
  refine lc_list (K := K) (a := r) (xs := xs) (fun i H' => Ex H1 H' ∧ H' D = some (.lst (((rs.take i).filter g).map fun r => V.str r.1))) ⟨Ex.new hD, upd_same⟩ (fun i H' _ hP => sq_of ((e1.trans hP.1) _ _ hr)) ?_ ?_
  · intro i x H' hx hP
    obtain ⟨e2, hacc⟩ := hP
    obtain ⟨rw', hrw, a, pa, rfl, ha, hpa⟩ := rows.get hx
    refine ⟨a, _, rfl, st_of ((e1.trans e2) _ _ ha), rfl, _, _, rfl, _, _, rfl, _, _, rfl, rfl, rfl, ?_⟩
    refine test rw' pa H' _ ?_
    have hl2 : (((rs.take i).filter g).map fun r => V.str r.1).length ≤ 1000 := by
      rw [List.length_map]
      exact Nat.le_trans (List.length_filter_le _ _) (by rw [List.length_take]; omega)
    refine ite2 (fun c => ?_) (fun c => ?_)
    · refine ⟨_, rfl, _, hacc, sz_lt (by omega), Ex.mut e2 hD, ?_⟩
      rw [upd_same, filter_take hrw, if_pos c]
      simp
    · refine ⟨e2, ?_⟩
      rw [hacc, filter_take hrw, if_neg c]
      simp
  · intro H' hP
    obtain ⟨e2, hacc⟩ := hP
    rw [hxl, List.take_length] at hacc
    refine ⟨D, _, rfl, Or.inl ⟨sq_of hacc, fun t ht => ?_⟩⟩
    refine q t _ (e2.trans (Ex.new ht)) ?_
    rw [upd_same, List.map_map]
    rfl
end
section
variable {P : Program} {w : World} {K : PySem.W.Frag} {mg : Str → Option Value} {base : Heap}
theorem ok_law (T : Tp w K mg) : FnG P w K mg base 15 T.f_law T.d_law ["_law_script"] (spLaw K) := by
  refine fun_g T.F_law sc_law (fun vs H Q E h => ?_) (fun cdv A outer s H vs Q E hG hr h => ?_)
  · obtain ⟨a, ns, rfl, _⟩ := h
    rfl
  obtain ⟨a, ns, rfl, hS, h63, q⟩ := h
  refine ⟨_, (pss_cons (ps_set (i := 1) sc_law.nd rfl (Or.inl rfl) (pe_call (ok__law_hand T) (hr.mono (by decide)) rfl T.m__law_hand T.F__law_hand.kp (b__law_hand T) .nil pass0 (pa_cons (pv 0) pa_nil (star1 rfl)) (by decide) (star1 rfl) (starAll rfl)))
  (pss_cons (ps_for PassesOwn.never rfl (pi_range1 rfl T.z_range (pa_cons pe_int pa_nil (star1 rfl))) (pg_name (i := 2) sc_law.nd rfl (Or.inl rfl)) (pss_cons (ps_set (i := 3) sc_law.nd rfl (Or.inr rfl) (pe_call (ok__law_plan T) (hr.mono (by decide)) rfl T.m__law_plan T.F__law_plan.kp (b__law_plan T) .nil pass0 (pa_cons (pv 1) (pa_cons (pe_call0 (ok__law_sizes T) (hr.mono (by decide)) rfl T.m__law_sizes T.F__law_sizes.kp (b__law_sizes T) .nil pass0) pa_nil (star1 rfl)) (star1 rfl)) (by decide) (star1 rfl) (starAll rfl)))
  (pss_cons (ps_par rfl sc_law.nd (i := 4) (j := 5) rfl rfl (by decide) rfl rfl (pa_cons (pe_callB (reprK (K := K) rfl hG (hu_r hr)) rfl T.z_repr (by decide +kernel) (pa_cons (pv 3) pa_nil (star1 rfl)) (by decide) (by decide) (star1 rfl) (starAll rfl)) (pa_cons (pe_call (ok__law_told T) (hr.mono (by decide)) rfl T.m__law_told T.F__law_told.kp (b__law_told T) .nil pass0 (pa_cons (pv 3) pa_nil (star1 rfl)) (by decide) (star1 rfl) (starAll rfl)) pa_nil (star1 rfl)) (star1 rfl)) (by rfl))
  (pss_cons (ps_for PassesOwn.never rfl (pi_range1 rfl T.z_range (pa_cons pe_int pa_nil (star1 rfl))) (pg_name (i := 6) sc_law.nd rfl (Or.inl rfl)) (pss_cons (ps_if (pt_cmpR op_ne (pe_callB (reprK (K := K) rfl hG (hu_r hr)) rfl T.z_repr (by decide +kernel) (pa_cons (pe_call (ok_hands_of T) (hr.mono (by decide)) rfl T.m_hands_of T.F_hands_of.kp (b_hands_of T) .nil pass0 (pa_cons (pv 3) pa_nil (star1 rfl)) (by decide) (star1 rfl) (starAll rfl)) pa_nil (star1 rfl)) (by decide) (by decide) (star1 rfl) (starAll rfl)) (pe_callB (reprK (K := K) rfl hG (hu_r hr)) rfl T.z_repr (by decide +kernel) (pa_cons (pe_callTy (tupleK (K := K) rfl) rfl T.z_tuple (by decide +kernel) (pa_cons (pe_lc (own := [("_law_name", 7), ("_law_is_one", 8), ("_law_path", 9)]) (g := gTup K 3 (gCons (gName 7) (gCons (gName 8) (gCons (gName 9) gNil)))) rfl sc_law.nd (pi_list (pv 5)) (blkOk_by (N := N_law) (sc := defScope s_law) (by decide +kernel)) (fun _ _ _ _ _ => (pg_tup rfl (pgs_cons (pg_name (i := 7) sc_law.nd rfl (Or.inl rfl)) (pgs_cons (pg_name (i := 8) sc_law.nd rfl (Or.inl rfl)) (pgs_cons (pg_name (i := 9) sc_law.nd rfl (Or.inl rfl)) pgs_nil))))) (fun _ _ _ _ _ => (pts_one (pt_not (pt_val (pv 8))))) (fun _ _ _ _ _ => (pv 7))) pa_nil (star1 rfl)) (by decide) (by decide) (star1 rfl) (starAll rfl)) pa_nil (star1 rfl)) (by decide) (by decide) (star1 rfl) (starAll rfl)) (nomark _)) (pss_one (ps_ret pe_bl)) pss_nil)
  (pss_cons (ps_if (pt_cmpR op_ne (pe_callB (reprK (K := K) rfl hG (hu_r hr)) rfl T.z_repr (by decide +kernel) (pa_cons (pe_call (ok_groups_of T) (hr.mono (by decide)) rfl T.m_groups_of T.F_groups_of.kp (b_groups_of T) .nil pass0 (pa_cons (pv 3) pa_nil (star1 rfl)) (by decide) (star1 rfl) (starAll rfl)) pa_nil (star1 rfl)) (by decide) (by decide) (star1 rfl) (starAll rfl)) (pe_callB (reprK (K := K) rfl hG (hu_r hr)) rfl T.z_repr (by decide +kernel) (pa_cons (pe_callTy (tupleK (K := K) rfl) rfl T.z_tuple (by decide +kernel) (pa_cons (pe_lc (own := [("_law_name", 7), ("_law_is_one", 8), ("_law_path", 9)]) (g := gTup K 3 (gCons (gName 7) (gCons (gName 8) (gCons (gName 9) gNil)))) rfl sc_law.nd (pi_list (pv 5)) (blkOk_by (N := N_law) (sc := defScope s_law) (by decide +kernel)) (fun _ _ _ _ _ => (pg_tup rfl (pgs_cons (pg_name (i := 7) sc_law.nd rfl (Or.inl rfl)) (pgs_cons (pg_name (i := 8) sc_law.nd rfl (Or.inl rfl)) (pgs_cons (pg_name (i := 9) sc_law.nd rfl (Or.inl rfl)) pgs_nil))))) (fun _ _ _ _ _ => (pts_one (pt_val (pv 8)))) (fun _ _ _ _ _ => (pv 7))) pa_nil (star1 rfl)) (by decide) (by decide) (star1 rfl) (starAll rfl)) pa_nil (star1 rfl)) (by decide) (by decide) (star1 rfl) (starAll rfl)) (nomark _)) (pss_one (ps_ret pe_bl)) pss_nil)
  (pss_one (ps_if (pt_not (pt_val (pe_callB (allK (K := K) rfl rfl) rfl T.z_all (by decide +kernel) (pa_cons (pe_lc (own := [("_law_name", 7), ("_law_is_one", 8), ("_law_path", 9)]) (g := gTup K 3 (gCons (gName 7) (gCons (gName 8) (gCons (gName 9) gNil)))) (tt := tYes) rfl sc_law.nd (pi_list (pv 5)) (blkOk_by (N := N_law) (sc := defScope s_law) (by decide +kernel)) (fun _ _ _ _ _ => (pg_tup rfl (pgs_cons (pg_name (i := 7) sc_law.nd rfl (Or.inl rfl)) (pgs_cons (pg_name (i := 8) sc_law.nd rfl (Or.inl rfl)) (pgs_cons (pg_name (i := 9) sc_law.nd rfl (Or.inl rfl)) pgs_nil))))) (fun _ _ _ _ _ => pts_nil) (fun _ _ _ _ _ => (pe_cmpR op_eq (pe_callB (reprK (K := K) rfl hG (hu_r hr)) rfl T.z_repr (by decide +kernel) (pa_cons (pe_call (ok_path_of T) (hr.mono (by decide)) rfl T.m_path_of T.F_path_of.kp (b_path_of T) .nil pass0 (pa_cons (pv 3) (pa_cons (pv 7) pa_nil (star1 rfl)) (star1 rfl)) (by decide) (star1 rfl) (starAll rfl)) pa_nil (star1 rfl)) (by decide) (by decide) (star1 rfl) (starAll rfl)) (pe_callB (reprK (K := K) rfl hG (hu_r hr)) rfl T.z_repr (by decide +kernel) (pa_cons (pv 9) pa_nil (star1 rfl)) (by decide) (by decide) (star1 rfl) (starAll rfl)) (nomark _)))) pa_nil (star1 rfl)) (by decide) (by decide) (star1 rfl) (starAll rfl)))) (pss_one (ps_ret pe_bl)) pss_nil)))))
  (pss_one (ps_if (pt_cmpR op_ne (pe_callB (reprK (K := K) rfl hG (hu_r hr)) rfl T.z_repr (by decide +kernel) (pa_cons (pv 3) pa_nil (star1 rfl)) (by decide) (by decide) (star1 rfl) (starAll rfl)) (pv 4) (nomark _)) (pss_one (ps_ret pe_bl)) pss_nil))))))
  (pss_one (ps_ret pe_bl)))), ?_⟩
  refine q_asgP ?_
  refine ⟨_, rfl, a, ns, rfl, hS, h63, fun h l H1 e1 hh hl A1 => ?_⟩
  refine q_forR1 (n := 3) (ea_cons ev_c ea_nil) (by decide) (fun i σ' H' => Hand H' h l ∧ ∃ c2 c3 c4 c5 c6 c7 c8 c9, σ' = [some (.ref a), some (.ref h), c2, c3, c4, c5, c6, c7, c8, c9]) ?_ ?_ ?_
  · intro H2 e2
    exact ⟨A1.ex e2, _, _, _, _, _, _, _, _, rfl⟩
  · intro i σ' H2 hi hP
    obtain ⟨A2, c2, c3, c4, c5, c6, c7, c8, c9, rfl⟩ := hP
    refine q_asgP ?_
    refine ⟨_, rfl, rfl, fun sa xs H3 e3 hsa0 hsa x1 x2 hxs => ?_⟩
    have A3 := A2.ex e3
    obtain ⟨n1, n2⟩ := A2.fresh hsa0
    refine ⟨h, l, sa, xs, rfl, A3, n1, n2, hsa, x1, x2, hxs, fun v n b ms H4 A4 kp4 tv tok tdp tsz tnd tnm => ?_⟩
    obtain ⟨pa, rfl⟩ : ∃ pa, v = .ref pa := by
      cases tv
      exact ⟨_, rfl⟩
    have sh := shows_plan tnm tok (by omega) (by omega)
    refine q_parP ?_
    refine ⟨_, rfl, pa, _, rfl, trv_dp _ _ tv, sh, _, rfl, .ref pa, n, b, ms, rfl, tv, tok, by omega, by omega, tnm, fun r rows H5 e5 hr5 hrw => ⟨_, _, rfl, ?_⟩⟩
    generalize hT : Tr.grp n b ms = tr at tv tok tdp tsz tnd tnm sh hrw
    have hlen : (tr.told []).length ≤ 1000 := by rw [told_len]; omega
    have namesOk : ∀ (g : Rw → Bool) (x : Str), x ∈ ((tr.told []).filter g).map (·.1) → nameOk x := fun g x hx => by
      obtain ⟨q, hq, rfl⟩ := List.mem_map.mp hx
      exact tnm _ (told_mem (List.mem_filter.mp hq).1)
    have fewOk : ∀ g : Rw → Bool, (((tr.told []).filter g).map (·.1)).length ≤ 1000 := fun g => by
      rw [List.length_map]
      exact Nat.le_trans (List.length_filter_le _ _) hlen
    refine q_forR1 (n := 2) (ea_cons ev_c ea_nil) (by decide) (fun i σ' H' => Ex H5 H' ∧ ∃ c2 c6 c7 c8 c9, σ' = [some (.ref a), some (.ref h), c2, some (.ref pa), some (.str tr.dat.shown), some (.ref r), c6, c7, c8, c9]) ?_ ?_ ?_
    · intro H6 e6
      exact ⟨e6, _, _, _, _, _, rfl⟩
    · intro j σ' H6 hj hP
      obtain ⟨e6, d2, d6, d7, d8, d9, rfl⟩ := hP
      have tv6 := trv_tk (TK.ex (e5.trans e6)) _ _ tv
      have hr6 := e6 _ _ hr5
      have hrw6 := hrw.tk (TK.ex e6)
      refine q_when (b := false) (et_is (et_test (ev_ne (ev_reprP (ns := handsOf tr) (by rw [← hT]; exact ep_names rfl (by rw [hT]; exact tv6) (by rw [hT]; omega) (by rw [hT]; omega)) (shows_names (namesOk _) (fewOk _))) (ev_reprP (ns := handsOf tr) (ep_told (fun q => !q.2.1) hr6 hrw6 hlen (fun q pa H1 Q hq => ⟨_, rfl, q.2.1, rfl, hq⟩)) (shows_names (namesOk _) (fewOk _))) rfl)) (by rw [decide_eq_true rfl]; rfl)) (fun hb => by cases hb) (fun _ H7 e7 => ?_)
      have tv7 := trv_tk (TK.ex e7) _ _ tv6
      have hr7 := e7 _ _ hr6
      have hrw7 := hrw6.tk (TK.ex e7)
      refine q_when (b := false) (et_is (et_test (ev_ne (ev_reprP (ns := groupsOf tr) (by rw [← hT]; exact ep_names rfl (by rw [hT]; exact tv7) (by rw [hT]; omega) (by rw [hT]; omega)) (shows_names (namesOk _) (fewOk _))) (ev_reprP (ns := groupsOf tr) (ep_told (fun q => q.2.1) hr7 hrw7 hlen (fun q pa H1 Q hq => ⟨_, rfl, q.2.1, rfl, hq⟩)) (shows_names (namesOk _) (fewOk _))) rfl)) (by rw [decide_eq_true rfl]; rfl)) (fun hb => by cases hb) (fun _ H8 e8 => ?_)
      have tv8 := trv_tk (TK.ex e8) _ _ tv7
      have hr8 := e8 _ _ hr7
      have hrw8 := hrw7.tk (TK.ex e8)
      have nd8 : ((tr.told []).map (·.1)).Nodup := by rw [told_nms]; exact tnd
      have hxl := hrw8.len
      refine s_when (b := false) (et_is (et_not (et_B (ev_allN (bs := List.replicate rows.length true) ?_))) ?_) (fun hb => by cases hb) (fun _ H9 e9 => ⟨((e6.trans e7).trans e8).trans e9, _, _, _, _, _, rfl⟩)
      · intro H9 e9 Q9 q9
        refine ⟨_, rfl, r, rfl, ⟨rows, sq_of (e9 _ _ hr8)⟩, fun D hD => ?_⟩
        refine lc_list (K := K) (a := r) (xs := rows) (fun i H' => Ex H9 H' ∧ H' D = some (.lst ((List.replicate i true).map V.bl))) ⟨Ex.new hD, upd_same⟩ (fun i H' _ hP => sq_of ((e9.trans hP.1) _ _ hr8)) ?_ ?_
        · intro i x H10 hx hP
          obtain ⟨e10, hacc⟩ := hP
          obtain ⟨rw', hrw', xa, xp, rfl, hxa, hxp⟩ := hrw8.get hx
          obtain ⟨nm, g, p⟩ := rw'
          simp only at hxa hxp
          have hmem := List.mem_of_getElem? hrw'
          obtain ⟨hp1, hp2⟩ := told_path tr [] _ hmem
          have shp : shows (.tuple (p.map PyData.str)) := shows_names (fun x hx => by
            rcases hp1 x hx with h | h
            · cases h
            · exact tnm x h) (by simp at hp2; omega)
          have e810 := e9.trans e10
          refine ⟨xa, _, rfl, st_of (e810 _ _ hxa), rfl, _, _, rfl, _, _, rfl, _, _, rfl, rfl, rfl, tYesQ ?_⟩
          have ev : Ev (tOp rEq (tCB (rRepr K) (tCons (tCall (spPath K) [] E0 (tCons (tVar 3) (tCons (tVar 7) tNil))) tNil)) (tCB (rRepr K) (tCons (tVar 9) tNil))) [some (.ref a), some (.ref h), d2, some (.ref pa), some (.str tr.dat.shown), some (.ref r), some (.int (j : Int)), some (.str nm), some (.bl g), some (.ref xp)] H10 (.bl true) := by
            refine ev_is (ev_eq (ev_reprP (ns := p) ?_ shp) (ev_repr (a := xp) (ev_var rfl) (.tup (st_of (e810 _ _ hxp)) (dpa_strs p)) shp) rfl) (by rw [decide_eq_true rfl])
            intro H11 e11 Q11 q11
            subst hT
            exact ⟨_, rfl, _, rfl, .ref pa, n, b, ms, nm, (nm, g, p), rfl, trv_tk (TK.ex (e810.trans e11)) _ _ tv8, by omega, by omega, find_row nd8 hrw', fun pp H12 e12 hpp => q11 pp H12 e12 hpp⟩
          refine ev H10 (Ex.refl H10) _ fun H11 e11 => ?_
          refine ⟨_, e11 _ _ hacc, sz_lt ?_, Ex.mut (e10.trans e11) hD, ?_⟩
          · rw [List.length_map, List.length_replicate]
            have := (List.getElem?_eq_some_iff.mp hx).1
            omega
          · rw [upd_same, List.replicate_succ']
            simp
        · intro H10 hP
          obtain ⟨e10, hacc⟩ := hP
          exact q9 D H10 hD e10 hacc
      · have : (List.replicate rows.length true).all id = true := by
          rw [List.all_eq_true]
          intro x hx
          exact (List.mem_replicate.mp hx).2
        rw [this]
        rfl
    · intro σ' H6 hP
      obtain ⟨e6, d2, d6, d7, d8, d9, rfl⟩ := hP
      have tv6 := trv_tk (TK.ex (e5.trans e6)) _ _ tv
      refine s_when (b := false) (et_is (et_test (ev_ne (ev_repr (a := pa) (ev_var rfl) (trv_dp _ _ tv6) sh) (ev_var rfl) rfl)) (by rw [decide_eq_true rfl]; rfl)) (fun hb => by cases hb) (fun _ H7 e7 => ?_)
      exact ⟨A4.ex ((e5.trans e6).trans e7), _, _, _, _, _, _, _, _, rfl⟩
  · intro σ' H2 hP
    exact s_ret ev_c fun H3 e3 => q H3
end

theorem all_mk {l : PySem.W.OpenLaw} {w : World} {K : PySem.W.Frag} {h : Heap} {mg : Str → Option Value} {fa f0 f1 f2 f3 f4 f5 f6 f7 f8 f9 f10 f11 f12 f13 : Addr} (X : K.In h) (G : h.Ns mainGlobals mg) (hfa : mg "law" = some (.ref fa))
    {od0 an0 od1 an1 od2 an2 od3 an3 od4 an4 od5 an5 od6 an6 od7 an7 od8 an8 od9 an9 od10 an10 od11 an11 od12 an12 od13 an13 : Option Addr} {sl0 sl1 sl2 sl3 sl4 sl5 sl6 sl7 sl8 sl9 sl10 sl11 sl12 sl13 : Array (Option Value)} {oc0 kV0 dc0 pm0 cd0 ct0 oc1 kV1 dc1 pm1 cd1 ct1 oc2 kV2 dc2 pm2 cd2 ct2 oc3 kV3 dc3 pm3 cd3 ct3 oc4 kV4 dc4 pm4 cd4 ct4 oc5 kV5 dc5 pm5 cd5 ct5 oc6 kV6 dc6 pm6 cd6 ct6 oc7 kV7 dc7 pm7 cd7 ct7 oc8 kV8 dc8 pm8 cd8 ct8 oc9 kV9 dc9 pm9 cd9 ct9 oc10 kV10 dc10 pm10 cd10 ct10 oc11 kV11 dc11 pm11 cd11 ct11 oc12 kV12 dc12 pm12 cd12 ct12 oc13 kV13 dc13 pm13 cd13 ct13 : Value}
    (a0 : PySem.W.nsIn K mainGlobals "hands_of" = some (some (.ref f0))) (l0 : K.lookup f0 = some ⟨oc0, od0, .func (PySem.W.fnOf "hands_of" "hands_of" (defArgs s_hands_of) (defBody s_hands_of) (defScope s_hands_of) .none kV0 dc0 pm0 an0 cd0 ct0), sl0⟩) (c0 : PySem.W.codeIn K cd0 "hands_of" = true) (k0 : PySem.W.keepIn K (.ref f0) = true)
    (a1 : PySem.W.nsIn K mainGlobals "groups_of" = some (some (.ref f1))) (l1 : K.lookup f1 = some ⟨oc1, od1, .func (PySem.W.fnOf "groups_of" "groups_of" (defArgs s_groups_of) (defBody s_groups_of) (defScope s_groups_of) .none kV1 dc1 pm1 an1 cd1 ct1), sl1⟩) (c1 : PySem.W.codeIn K cd1 "groups_of" = true) (k1 : PySem.W.keepIn K (.ref f1) = true)
    (a2 : PySem.W.nsIn K mainGlobals "path_of" = some (some (.ref f2))) (l2 : K.lookup f2 = some ⟨oc2, od2, .func (PySem.W.fnOf "path_of" "path_of" (defArgs s_path_of) (defBody s_path_of) (defScope s_path_of) .none kV2 dc2 pm2 an2 cd2 ct2), sl2⟩) (c2 : PySem.W.codeIn K cd2 "path_of" = true) (k2 : PySem.W.keepIn K (.ref f2) = true)
    (a3 : PySem.W.nsIn K mainGlobals "all_in" = some (some (.ref f3))) (l3 : K.lookup f3 = some ⟨oc3, od3, .func (PySem.W.fnOf "all_in" "all_in" (defArgs s_all_in) (defBody s_all_in) (defScope s_all_in) .none kV3 dc3 pm3 an3 cd3 ct3), sl3⟩) (c3 : PySem.W.codeIn K cd3 "all_in" = true) (k3 : PySem.W.keepIn K (.ref f3) = true)
    (a4 : PySem.W.nsIn K mainGlobals "all_from" = some (some (.ref f4))) (l4 : K.lookup f4 = some ⟨oc4, od4, .func (PySem.W.fnOf "all_from" "all_from" (defArgs s_all_from) (defBody s_all_from) (defScope s_all_from) .none kV4 dc4 pm4 an4 cd4 ct4), sl4⟩) (c4 : PySem.W.codeIn K cd4 "all_from" = true) (k4 : PySem.W.keepIn K (.ref f4) = true)
    (a5 : PySem.W.nsIn K mainGlobals "_law_hand" = some (some (.ref f5))) (l5 : K.lookup f5 = some ⟨oc5, od5, .func (PySem.W.fnOf "_law_hand" "_law_hand" (defArgs s__law_hand) (defBody s__law_hand) (defScope s__law_hand) .none kV5 dc5 pm5 an5 cd5 ct5), sl5⟩) (c5 : PySem.W.codeIn K cd5 "_law_hand" = true) (k5 : PySem.W.keepIn K (.ref f5) = true)
    (a6 : PySem.W.nsIn K mainGlobals "_law_pick" = some (some (.ref f6))) (l6 : K.lookup f6 = some ⟨oc6, od6, .func (PySem.W.fnOf "_law_pick" "_law_pick" (defArgs s__law_pick) (defBody s__law_pick) (defScope s__law_pick) .none kV6 dc6 pm6 an6 cd6 ct6), sl6⟩) (c6 : PySem.W.codeIn K cd6 "_law_pick" = true) (k6 : PySem.W.keepIn K (.ref f6) = true)
    (a7 : PySem.W.nsIn K mainGlobals "_law_of" = some (some (.ref f7))) (l7 : K.lookup f7 = some ⟨oc7, od7, .func (PySem.W.fnOf "_law_of" "_law_of" (defArgs s__law_of) (defBody s__law_of) (defScope s__law_of) .none kV7 dc7 pm7 an7 cd7 ct7), sl7⟩) (c7 : PySem.W.codeIn K cd7 "_law_of" = true) (k7 : PySem.W.keepIn K (.ref f7) = true)
    (a8 : PySem.W.nsIn K mainGlobals "_law_names" = some (some (.ref f8))) (l8 : K.lookup f8 = some ⟨oc8, od8, .func (PySem.W.fnOf "_law_names" "_law_names" (defArgs s__law_names) (defBody s__law_names) (defScope s__law_names) .none kV8 dc8 pm8 an8 cd8 ct8), sl8⟩) (c8 : PySem.W.codeIn K cd8 "_law_names" = true) (k8 : PySem.W.keepIn K (.ref f8) = true)
    (a9 : PySem.W.nsIn K mainGlobals "_law_group" = some (some (.ref f9))) (l9 : K.lookup f9 = some ⟨oc9, od9, .func (PySem.W.fnOf "_law_group" "_law_group" (defArgs s__law_group) (defBody s__law_group) (defScope s__law_group) .none kV9 dc9 pm9 an9 cd9 ct9), sl9⟩) (c9 : PySem.W.codeIn K cd9 "_law_group" = true) (k9 : PySem.W.keepIn K (.ref f9) = true)
    (a10 : PySem.W.nsIn K mainGlobals "_law_sizes" = some (some (.ref f10))) (l10 : K.lookup f10 = some ⟨oc10, od10, .func (PySem.W.fnOf "_law_sizes" "_law_sizes" (defArgs s__law_sizes) (defBody s__law_sizes) (defScope s__law_sizes) .none kV10 dc10 pm10 an10 cd10 ct10), sl10⟩) (c10 : PySem.W.codeIn K cd10 "_law_sizes" = true) (k10 : PySem.W.keepIn K (.ref f10) = true)
    (a11 : PySem.W.nsIn K mainGlobals "_law_plan" = some (some (.ref f11))) (l11 : K.lookup f11 = some ⟨oc11, od11, .func (PySem.W.fnOf "_law_plan" "_law_plan" (defArgs s__law_plan) (defBody s__law_plan) (defScope s__law_plan) .none kV11 dc11 pm11 an11 cd11 ct11), sl11⟩) (c11 : PySem.W.codeIn K cd11 "_law_plan" = true) (k11 : PySem.W.keepIn K (.ref f11) = true)
    (a12 : PySem.W.nsIn K mainGlobals "_law_told" = some (some (.ref f12))) (l12 : K.lookup f12 = some ⟨oc12, od12, .func (PySem.W.fnOf "_law_told" "_law_told" (defArgs s__law_told) (defBody s__law_told) (defScope s__law_told) .none kV12 dc12 pm12 an12 cd12 ct12), sl12⟩) (c12 : PySem.W.codeIn K cd12 "_law_told" = true) (k12 : PySem.W.keepIn K (.ref f12) = true)
    (a13 : PySem.W.nsIn K mainGlobals "law" = some (some (.ref f13))) (l13 : K.lookup f13 = some ⟨oc13, od13, .func (PySem.W.fnOf "law" "law" (defArgs s_law) (defBody s_law) (defScope s_law) .none kV13 dc13 pm13 an13 cd13 ct13), sl13⟩) (c13 : PySem.W.codeIn K cd13 "law" = true) (k13 : PySem.W.keepIn K (.ref f13) = true)
    (z0 : PySem.W.nsIn K mainGlobals "all" = some none)
    (z1 : PySem.W.nsIn K mainGlobals "isinstance" = some none)
    (z2 : PySem.W.nsIn K mainGlobals "len" = some none)
    (z3 : PySem.W.nsIn K mainGlobals "range" = some none)
    (z4 : PySem.W.nsIn K mainGlobals "repr" = some none)
    (z5 : PySem.W.nsIn K mainGlobals "str" = some none)
    (z6 : PySem.W.nsIn K mainGlobals "tuple" = some none) :
    ∃ fd : FuncData, (∀ (s : Shared) (v : Value), BindsTo s fd ⟨[v], []⟩ [("_law_script", v)]) ∧ ∀ base : Heap, K.In base → base.Ns mainGlobals mg → FnG l.prog w K mg base 15 fa fd ["_law_script"] (spLaw K) := by
  have e := hfa.symm.trans (PySem.W.mg_of X G a13)
  cases e
  refine ⟨PySem.W.fnOf "law" "law" (defArgs s_law) (defBody s_law) (defScope s_law) .none kV13 dc13 pm13 an13 cd13 ct13, fun s v => .of_eq rfl, fun base _ _ => ?_⟩
  exact ok_law (T := {
    f_hands_of := f0, d_hands_of := _, F_hands_of := fun_mk (st := s_hands_of) l0 c0 k0, m_hands_of := PySem.W.mg_of X G a0,
    f_groups_of := f1, d_groups_of := _, F_groups_of := fun_mk (st := s_groups_of) l1 c1 k1, m_groups_of := PySem.W.mg_of X G a1,
    f_path_of := f2, d_path_of := _, F_path_of := fun_mk (st := s_path_of) l2 c2 k2, m_path_of := PySem.W.mg_of X G a2,
    f_all_in := f3, d_all_in := _, F_all_in := fun_mk (st := s_all_in) l3 c3 k3, m_all_in := PySem.W.mg_of X G a3,
    f_all_from := f4, d_all_from := _, F_all_from := fun_mk (st := s_all_from) l4 c4 k4, m_all_from := PySem.W.mg_of X G a4,
    f__law_hand := f5, d__law_hand := _, F__law_hand := fun_mk (st := s__law_hand) l5 c5 k5, m__law_hand := PySem.W.mg_of X G a5,
    f__law_pick := f6, d__law_pick := _, F__law_pick := fun_mk (st := s__law_pick) l6 c6 k6, m__law_pick := PySem.W.mg_of X G a6,
    f__law_of := f7, d__law_of := _, F__law_of := fun_mk (st := s__law_of) l7 c7 k7, m__law_of := PySem.W.mg_of X G a7,
    f__law_names := f8, d__law_names := _, F__law_names := fun_mk (st := s__law_names) l8 c8 k8, m__law_names := PySem.W.mg_of X G a8,
    f__law_group := f9, d__law_group := _, F__law_group := fun_mk (st := s__law_group) l9 c9 k9, m__law_group := PySem.W.mg_of X G a9,
    f__law_sizes := f10, d__law_sizes := _, F__law_sizes := fun_mk (st := s__law_sizes) l10 c10 k10, m__law_sizes := PySem.W.mg_of X G a10,
    f__law_plan := f11, d__law_plan := _, F__law_plan := fun_mk (st := s__law_plan) l11 c11 k11, m__law_plan := PySem.W.mg_of X G a11,
    f__law_told := f12, d__law_told := _, F__law_told := fun_mk (st := s__law_told) l12 c12 k12, m__law_told := PySem.W.mg_of X G a12,
    f_law := fa, d_law := _, F_law := fun_mk (st := s_law) l13 c13 k13, m_law := PySem.W.mg_of X G a13,
    z_all := PySem.W.mg_none_of X G z0,
    z_isinstance := PySem.W.mg_none_of X G z1,
    z_len := PySem.W.mg_none_of X G z2,
    z_range := PySem.W.mg_none_of X G z3,
    z_repr := PySem.W.mg_none_of X G z4,
    z_str := PySem.W.mg_none_of X G z5,
    z_tuple := PySem.W.mg_none_of X G z6
    })
end K04
open PySem PySem.W PyProof.Rows
set_option maxRecDepth 100000 in
set_option maxHeartbeats 0 in
theorem PySem.Challenge.cw_nearlocks_k04_hands_groups_and_paths_holds : PySem.Challenge.rw_nearlocks_k04_hands_groups_and_paths.Holds := by
  w_on; o_law; k_head; (case hw => w_witness2)
  k_fill
  refine NL.walk_g (l := PySem.Challenge.rw_nearlocks_k04_hands_groups_and_paths) (n := 63) (k := 15) (x := "_law_script") (sp := K04.spLaw) rfl (by decide) rfl ⟨rfl, by decide, by decide⟩ (fun w h Y => PySem.W.kIn_of Y) ?F ?P
  case P =>
    intro K H a ns hl hS
    exact ⟨a, ns, rfl, hS, hl, fun _ => rfl⟩
  case F =>
    intro w mg fa h KX G hmg
    refine' K04.all_mk KX G hmg ?a0 ?l0 ?c0 ?k0 ?a1 ?l1 ?c1 ?k1 ?a2 ?l2 ?c2 ?k2 ?a3 ?l3 ?c3 ?k3 ?a4 ?l4 ?c4 ?k4 ?a5 ?l5 ?c5 ?k5 ?a6 ?l6 ?c6 ?k6 ?a7 ?l7 ?c7 ?k7 ?a8 ?l8 ?c8 ?k8 ?a9 ?l9 ?c9 ?k9 ?a10 ?l10 ?c10 ?k10 ?a11 ?l11 ?c11 ?k11 ?a12 ?l12 ?c12 ?k12 ?a13 ?l13 ?c13 ?k13 ?z0 ?z1 ?z2 ?z3 ?z4 ?z5 ?z6
    (case a0 => k_is); (case l0 => k_is); (case c0 => k_is); (case k0 => k_is)
    (case a1 => k_is); (case l1 => k_is); (case c1 => k_is); (case k1 => k_is)
    (case a2 => k_is); (case l2 => k_is); (case c2 => k_is); (case k2 => k_is)
    (case a3 => k_is); (case l3 => k_is); (case c3 => k_is); (case k3 => k_is)
    (case a4 => k_is); (case l4 => k_is); (case c4 => k_is); (case k4 => k_is)
    (case a5 => k_is); (case l5 => k_is); (case c5 => k_is); (case k5 => k_is)
    (case a6 => k_is); (case l6 => k_is); (case c6 => k_is); (case k6 => k_is)
    (case a7 => k_is); (case l7 => k_is); (case c7 => k_is); (case k7 => k_is)
    (case a8 => k_is); (case l8 => k_is); (case c8 => k_is); (case k8 => k_is)
    (case a9 => k_is); (case l9 => k_is); (case c9 => k_is); (case k9 => k_is)
    (case a10 => k_is); (case l10 => k_is); (case c10 => k_is); (case k10 => k_is)
    (case a11 => k_is); (case l11 => k_is); (case c11 => k_is); (case k11 => k_is)
    (case a12 => k_is); (case l12 => k_is); (case c12 => k_is); (case k12 => k_is)
    (case a13 => k_is); (case l13 => k_is); (case c13 => k_is); (case k13 => k_is)
    (case z0 => k_is)
    (case z1 => k_is)
    (case z2 => k_is)
    (case z3 => k_is)
    (case z4 => k_is)
    (case z5 => k_is)
    (case z6 => k_is)

