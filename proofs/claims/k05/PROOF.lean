import PyProof.Rows.All
import Wide.All
import OpenK.AllK
import Wide.FinOn
import HandS.CallLocal
import HandS.Evl
import HandS.ForMost
import HandS.IsInst
import HandS.More
import HandS.Style
import HandS.TupAny
import HandS.WrittenGet
import PySem.Challenge.RW_nearlocks_k05_programs_at_their_bounds
set_option Elab.async false
set_option linter.all false
set_option maxRecDepth 100000
set_option maxHeartbeats 4000000
/-! the ground: data of the heap, their kinds, what stays -/
namespace NL
open PySem L2 Evl

mutual
theorem dp_of {K : PySem.W.Frag} {H H' : Hp} (el : ∀ a xs, SqL K H a xs → SqL K H' a xs) (et : ∀ a xs, SqT K H a xs → SqT K H' a xs) : ∀ (d : PyData) (v : V), Dp K H v d → Dp K H' v d
  | .none, _, h => by cases h; exact .non
  | .bool b, _, h => by cases h; exact .bl b
  | .int i, _, h => by cases h; exact .int i
  | .str x, _, h => by cases h; exact .str x
  | .list ds, _, h => by
    cases h with
    | lst hs ha => exact .lst (el _ _ hs) (dpa_of el et ds _ ha)
  | .tuple ds, _, h => by
    cases h with
    | tup hs ha => exact .tup (et _ _ hs) (dpa_of el et ds _ ha)
  | .dict _, _, h => by cases h
theorem dpa_of {K : PySem.W.Frag} {H H' : Hp} (el : ∀ a xs, SqL K H a xs → SqL K H' a xs) (et : ∀ a xs, SqT K H a xs → SqT K H' a xs) : ∀ (ds : List PyData) (vs : List V), DpAll K H vs ds → DpAll K H' vs ds
  | [], _, h => by cases h; exact .nil
  | d :: ds, _, h => by
    cases h with
    | cons h1 h2 => exact .cons (dp_of el et d _ h1) (dpa_of el et ds _ h2)
end
theorem dp_mono {K : PySem.W.Frag} {H H' : Hp} {v : V} {d : PyData} (e : Ex H H') (h : Dp K H v d) : Dp K H' v d := dp_of (fun _ _ => ex_l e) (fun _ _ => ex_t e) d v h
theorem dpa_mono {K : PySem.W.Frag} {H H' : Hp} {vs : List V} {ds : List PyData} (e : Ex H H') (h : DpAll K H vs ds) : DpAll K H' vs ds := dpa_of (fun _ _ => ex_l e) (fun _ _ => ex_t e) ds vs h
theorem dpa_len {K : PySem.W.Frag} {H : Hp} : ∀ {vs : List V} {ds : List PyData}, DpAll K H vs ds → vs.length = ds.length
  | _, _, .nil => rfl
  | _, _, .cons _ t => by rw [List.length_cons, List.length_cons, dpa_len t]
theorem dpa_get {K : PySem.W.Frag} {H : Hp} : ∀ {vs : List V} {ds : List PyData} {i : Nat} {v : V}, DpAll K H vs ds → vs[i]? = some v → ∃ d, ds[i]? = some d ∧ Dp K H v d
  | _, _, _, _, .nil, e => by simp at e
  | _, _, 0, _, .cons r _, e => by simp at e; subst e; exact ⟨_, rfl, r⟩
  | _, _, i + 1, v, .cons _ t, e => by
    obtain ⟨d, h1, h2⟩ := dpa_get (i := i) (v := v) t (by simpa using e)
    exact ⟨d, by simpa using h1, h2⟩

/-! ### kinds -/
def tyN : PyData → String
  | .none => "NoneType" | .bool _ => "bool" | .int _ => "int" | .str _ => "str" | .list _ => "list" | .tuple _ => "tuple" | .dict _ => "dict"
theorem dp_ty {K : PySem.W.Frag} {H : Hp} {v : V} {d : PyData} (h : Dp K H v d) : TyX K H v (.type (tyN d)) := by
  cases h with
  | non => exact .base .non
  | bl b => exact .base (.bl b)
  | int i => exact .base (.int i)
  | str x => exact .base (.str x)
  | lst hs _ =>
    rcases hs with (h | ⟨o, h⟩) | ⟨o, its, n, h, c, _⟩
    · exact .base (.lst h)
    · exact .base (.frz h)
    · exact .kList h c
  | tup hs _ =>
    rcases hs with (h | ⟨o, h⟩) | ⟨o, its, n, h, c, _⟩
    · exact .base (.tup h)
    · exact .fTuple h
    · exact .kTuple h c
def isIntB : PyData → Bool
  | .int _ => true | .bool _ => true | _ => false
def isBoolB : PyData → Bool
  | .bool _ => true | _ => false
def isTupB : PyData → Bool
  | .tuple _ => true | _ => false
def isStrB : PyData → Bool
  | .str _ => true | _ => false
theorem kt_int (d : PyData) : kitB (tyN d) "int" = some (isIntB d) := by
  cases d
  · exact (by decide +kernel : kitB "NoneType" "int" = some false)
  · exact (by decide +kernel : kitB "bool" "int" = some true)
  · exact (by decide +kernel : kitB "int" "int" = some true)
  · exact (by decide +kernel : kitB "str" "int" = some false)
  · exact (by decide +kernel : kitB "list" "int" = some false)
  · exact (by decide +kernel : kitB "tuple" "int" = some false)
  · exact (by decide +kernel : kitB "dict" "int" = some false)
theorem kt_bool (d : PyData) : kitB (tyN d) "bool" = some (isBoolB d) := by
  cases d
  · exact (by decide +kernel : kitB "NoneType" "bool" = some false)
  · exact (by decide +kernel : kitB "bool" "bool" = some true)
  · exact (by decide +kernel : kitB "int" "bool" = some false)
  · exact (by decide +kernel : kitB "str" "bool" = some false)
  · exact (by decide +kernel : kitB "list" "bool" = some false)
  · exact (by decide +kernel : kitB "tuple" "bool" = some false)
  · exact (by decide +kernel : kitB "dict" "bool" = some false)
theorem kt_tuple (d : PyData) : kitB (tyN d) "tuple" = some (isTupB d) := by
  cases d
  · exact (by decide +kernel : kitB "NoneType" "tuple" = some false)
  · exact (by decide +kernel : kitB "bool" "tuple" = some false)
  · exact (by decide +kernel : kitB "int" "tuple" = some false)
  · exact (by decide +kernel : kitB "str" "tuple" = some false)
  · exact (by decide +kernel : kitB "list" "tuple" = some false)
  · exact (by decide +kernel : kitB "tuple" "tuple" = some true)
  · exact (by decide +kernel : kitB "dict" "tuple" = some false)
theorem kt_str (d : PyData) : kitB (tyN d) "str" = some (isStrB d) := by
  cases d
  · exact (by decide +kernel : kitB "NoneType" "str" = some false)
  · exact (by decide +kernel : kitB "bool" "str" = some false)
  · exact (by decide +kernel : kitB "int" "str" = some false)
  · exact (by decide +kernel : kitB "str" "str" = some true)
  · exact (by decide +kernel : kitB "list" "str" = some false)
  · exact (by decide +kernel : kitB "tuple" "str" = some false)
  · exact (by decide +kernel : kitB "dict" "str" = some false)

section
variable {K : PySem.W.Frag} {σ : L2.St} {H : Hp} {ta tb te : TE} {x v : V} {d : PyData}
theorem ev_isi {T : String} {b : Bool} (ha : Ev ta σ H x) (hd : Dp K H x d) (hk : kitB (tyN d) T = some b) : Ev (tCB (rIsi K) (tCons ta (tCons (tC (.ty T)) tNil))) σ H (.bl b) := fun H1 e Q q =>
  ha H1 e _ fun H2 e2 => ⟨x, .ty T, _, _, b, rfl, .ty T, dp_ty (dp_mono (e.trans e2) hd), kit_ty hk, q H2 e2⟩
theorem ev_lenT {p : Addr} {xs : List V} (ha : Ev ta σ H (.ref p)) (h : SqT K H p xs) : Ev (tCB (rLenS K) (tCons ta tNil)) σ H (.int (xs.length : Int)) := fun H1 e Q q =>
  ha H1 e _ fun H2 e2 => ⟨p, xs, rfl, Or.inr (ex_t (e.trans e2) h), q H2 e2⟩
theorem ev_ixT {p : Addr} {xs : List V} {i : Int} (ha : Ev ta σ H (.ref p)) (hb : Ev tb σ H (.int i)) (h : SqT K H p xs) (hi : atI xs i = some v) : Ev (tOp (rIxT K) ta tb) σ H v := ev_op ha hb (rv_ixT h hi)
theorem ev_isN (ha : Ev ta σ H x) : Ev (tIsN ta) σ H (.bl (decide (x = .non))) := fun H1 e Q q => ha H1 e _ fun H2 e2 => q H2 e2
theorem ev_eq {y : V} (ha : Ev ta σ H x) (hb : Ev tb σ H y) (h : scal x y = true) : Ev (tOp rEq ta tb) σ H (.bl (decide (x = y))) := ev_op ha hb (rv_eq h)
theorem ev_ne {y : V} (ha : Ev ta σ H x) (hb : Ev tb σ H y) (h : scal x y = true) : Ev (tOp rNe ta tb) σ H (.bl (!decide (x = y))) := ev_op ha hb (rv_ne h)
theorem ev_I0 {g : Int → Int → V} {i j : Int} (ha : Ev ta σ H (.int i)) (hb : Ev tb σ H (.int j)) : Ev (tOp (rI0 g) ta tb) σ H (g i j) := ev_op ha hb rv_I0
theorem ev_I {C : Int → Int → Prop} {g : Int → Int → V} {i j : Int} (hc : C i j) (ha : Ev ta σ H (.int i)) (hb : Ev tb σ H (.int j)) : Ev (tOp (rI C g) ta tb) σ H (g i j) := ev_op ha hb (rv_I hc)
theorem ev_allN {bs : List Bool} (ha : EvL ta σ H (bs.map V.bl)) : Ev (tCB (rAll K) (tCons ta tNil)) σ H (.bl (bs.all id)) := fun H1 e Q q =>
  ha H1 e _ fun p H2 _ e2 h2 => ⟨p, bs, rfl, sq_of h2, q H2 e2⟩
/-- a comprehension over a tuple, whose turns give or skip as told -/
theorem el_lcT {a : Addr} {xs : List V} {tl : TE} {tt : TT} {j : Nat} {vs : List Nat} (f : Nat → Bool) (g : Nat → V) (src : Ev tl σ H (.ref a)) (held : SqT K H a xs) (few : xs.length ≤ 40000) (clean : ∀ x, wipe ((wipe σ vs).set j (some x)) vs = wipe σ vs)
    (test : ∀ (i : Nat) (x : V) H1, Ex H H1 → xs[i]? = some x → EvT tt ((wipe σ vs).set j (some x)) H1 (f i)) (give : ∀ (i : Nat) (x : V) H1, Ex H H1 → xs[i]? = some x → f i = true → Ev te ((wipe σ vs).set j (some x)) H1 (g i)) :
    EvL (tLc (iTup K tl) (gName j) tt te vs) σ H (given xs.length f g) := by
  intro H0 e0 Q next
  refine src H0 e0 _ fun H1 e1 => ?_
  have e01 : Ex H H1 := e0.trans e1
  refine ⟨a, rfl, ⟨xs, ex_t e01 held⟩, fun made fresh => ?_⟩
  refine lc_tup (xs := xs) (Cw H1 f g made) ⟨fresh, Ex.new fresh, upd_same⟩ ?stays ?turn ?done
  case stays =>
    intro i H' _ inv
    exact ex_t (e01.trans inv.2.1) held
  case turn =>
    intro i x H' at_i inv
    have small : i < 50000 := by
      have := (List.getElem?_eq_some_iff.mp at_i).1
      omega
    exact ⟨clean x, cw_turn inv small (test i x H1 e01 at_i) (give i x H1 e01 at_i)⟩
  case done =>
    intro H' inv
    exact next made H' (fresh_back e1 inv.1) (e1.trans inv.2.1) inv.2.2
end
theorem s_next {D : Ends} {σ : L2.St} {H : Hp} (h : D.nx σ H) : tNext D σ H := h
theorem s_seq {D : Ends} {t u : TS} {σ : L2.St} {H : Hp} (h : t { D with nx := u D } σ H) : tSeq t u D σ H := h
theorem q_asgP {te : TE} {tz : TS} {D : Ends} {σ : L2.St} {H : Hp} {i : Nat} (h : te σ H fun v H1 => tz D (σ.set i (some v)) H1) : tSeq (tAsg te (gName i)) tz D σ H := h
theorem s_retP {te : TE} {D : Ends} {σ : L2.St} {H : Hp} (h : te σ H fun v H1 => D.rt v H1) : tRet te D σ H := h
theorem q_dropP {te : TE} {tz : TS} {D : Ends} {σ : L2.St} {H : Hp} (h : te σ H fun v H1 => tz D σ H1) : tSeq (tDrop te) tz D σ H := h
theorem et_yes {σ : L2.St} {H : Hp} : EvT tYes σ H true := fun H1 _ _ q => q H1 (Ex.refl H1)
theorem given_all (n : Nat) (g : Nat → V) : given n (fun _ => true) g = (List.range n).map g := by
  unfold given
  rw [List.filter_eq_self.mpr (fun _ _ => rfl)]

/-! ### arguments without a star, whatever the scope -/
def noStar : Expr → Bool
  | .Starred _ _ => false
  | _ => true
theorem star1 {e : Expr} {es : List Expr} {env : Env} (h : noStar e = true) : starEach (e :: es) env = (false, eval e env) :: starEach es env := by
  cases e <;> first | rfl | cases h
theorem starAll {pos : Pos} {env : Env} : ∀ {es : List Expr}, es.all noStar = true → (backTo pos (starEach es env)).any (·.1) = false
  | [], _ => rfl
  | e :: es, h => by
    rw [List.all_cons, Bool.and_eq_true] at h
    rw [star1 h.1]
    have := starAll (pos := pos) (env := env) h.2
    unfold backTo at this ⊢
    simpa using this
/-! ### rules by a written part that is named -/
section
variable {X : Cx} {K : PySem.W.Frag}
theorem lenK (h : X.K = K) : CallR X (.builtin "len") (rLenS K) := by subst h; exact call_len_seq
theorem isiK (h : X.K = K) : CallR X (.builtin "isinstance") (rIsi K) := by subst h; exact call_isi
theorem allK (h : X.K = K) (hc : X.calm = true) : CallR X (.builtin "all") (rAll K) := by subst h; exact cr_all hc
theorem ixTK (h : X.K = K) : IxR X (rIxT K) := by subst h; exact ix_tup
theorem ixLK (h : X.K = K) : IxR X (rIxL K) := by subst h; exact ix_list
theorem catAK (h : X.K = K) : OpR X (binaryOp .Add) (rCatA K) := by subst h; exact op_catA
theorem slAK (h : X.K = K) : SlR X (rSlA K) := by subst h; exact sl_tupA
theorem eqDK (h : X.K = K) (hu : X.A.units + 64 < cLine) : OpR X (compareOp .Eq) (rEqD K) := by subst h; exact op_eqD hu
theorem neDK (h : X.K = K) (hu : X.A.units + 64 < cLine) : OpR X (compareOp .NotEq) (rNeD K) := by subst h; exact op_neD hu
end

/-! ### a dict of the module, asked by any text -/
def KTab (K : PySem.W.Frag) (w : World) (a : Addr) (f : Str → Option Value) : Prop :=
  ∃ es n, K.lookup a = some ⟨.type "dict", none, .dict es n, #[]⟩ ∧ PySem.W.KeysLit w.params es.toList ∧ (a == sysModules) = false ∧ ∀ z, PySem.W.nsIn K a z = some (f z)
def rNotInK (K : PySem.W.Frag) (w : World) : R2 := fun x y H Q => ∃ p z f, x = .str z ∧ y = .ref p ∧ KTab K w p f ∧ Q (.bl (!(f z).isSome)) H
section
variable {X : Cx}
theorem op_notInK : OpR X (compareOp .NotIn) (rNotInK X.K X.w) := by
  intro pins s σ H x y v u Q I rx ry h
  obtain ⟨p, z, f, rfl, rfl, ⟨es, n, hl, hk, low, hf⟩, q⟩ := h
  obtain rfl : u = Value.ref p := ry
  obtain ⟨t, rfl⟩ := rx
  have hm := PySem.W.mapOf_K (prog := X.prog) (w := X.w) I.kIn hl hk
  refine wpAny_notIn_of (strKind_is X.prog X.w z t) low hm ?_
  rw [PySem.W.find_K hl (hf z)]
  exact ⟨.bl _, H, I.tok _, rfl, q⟩
end
theorem rv_ixD {K : PySem.W.Frag} {w : World} {H : Hp} {p : Addr} {z : Str} {f : Str → Option Value} {a : Addr} (h : KTab K w p f) (e : f z = some (.ref a)) : RV (rIxD K w) (.ref p) (.str z) H (.ref a) := fun H1 _ _ q => by
  obtain ⟨es, n, hl, hk, _, hf⟩ := h
  exact ⟨p, z, .ref a, rfl, rfl, ⟨es, n, .ref a, hl, hk, by rw [hf z, e], rfl⟩, q H1 (Ex.refl H1)⟩
theorem rv_notInK {K : PySem.W.Frag} {w : World} {H : Hp} {p : Addr} {z : Str} {f : Str → Option Value} (h : KTab K w p f) : RV (rNotInK K w) (.str z) (.ref p) H (.bl (!(f z).isSome)) := fun H1 _ _ q => ⟨p, z, f, rfl, rfl, h, q H1 (Ex.refl H1)⟩
end NL

/-! the drawing hand: a list of a list of cells and a seed; what stays while it draws -/
namespace NL
open PySem L2 Evl
structure HandAt (H : Hp) (h l : Addr) (cs : List Int) (sd : Int) : Prop where
  hh : H h = some (.lst [.ref l, .int sd])
  hl : H l = some (.lst (cs.map V.int))
  lo : 0 ≤ sd
  hi : sd < 2305843009213693951
  few : cs.length ≤ 63
  pos : ∀ c ∈ cs, 0 ≤ c
def Hand (H : Hp) (h l : Addr) : Prop := ∃ cs sd, HandAt H h l cs sd
def Kp (h l : Addr) (H H' : Hp) : Prop := ∀ a o, a ≠ h → a ≠ l → H a = some o → H' a = some o
theorem Kp.refl (h l : Addr) (H : Hp) : Kp h l H H := fun _ _ _ _ e => e
theorem Kp.trans {h l : Addr} {H H1 H2 : Hp} (a : Kp h l H H1) (b : Kp h l H1 H2) : Kp h l H H2 := fun x o n m e => b x o n m (a x o n m e)
theorem Kp.ex {h l : Addr} {H H1 : Hp} (a : Ex H H1) : Kp h l H H1 := fun x o _ _ e => a x o e
theorem Kp.put {h l : Addr} {H H1 : Hp} {o : HO} {a : Addr} (k : Kp h l H H1) (ha : a = h ∨ a = l) : Kp h l H (upd H1 a o) := fun x u n m e => by
  have hx : x ≠ a := by rcases ha with rfl | rfl <;> assumption
  rw [upd_ne hx]
  exact k x u n m e
theorem HandAt.ne {H : Hp} {h l : Addr} {cs : List Int} {sd : Int} (A : HandAt H h l cs sd) : h ≠ l := by
  intro e
  subst e
  have e2 := A.hh.symm.trans A.hl
  cases cs with
  | nil => cases e2
  | cons c r => cases e2
theorem Hand.ne {H : Hp} {h l : Addr} (A : Hand H h l) : h ≠ l := by
  obtain ⟨cs, sd, A⟩ := A
  exact A.ne
theorem HandAt.ex {H H' : Hp} {h l : Addr} {cs : List Int} {sd : Int} (A : HandAt H h l cs sd) (e : Ex H H') : HandAt H' h l cs sd := ⟨e _ _ A.hh, e _ _ A.hl, A.lo, A.hi, A.few, A.pos⟩
theorem Hand.ex {H H' : Hp} {h l : Addr} (A : Hand H h l) (e : Ex H H') : Hand H' h l := by
  obtain ⟨cs, sd, A⟩ := A
  exact ⟨cs, sd, A.ex e⟩
theorem Hand.fresh {H : Hp} {h l p : Addr} (A : Hand H h l) (n : H p = none) : p ≠ h ∧ p ≠ l := by
  obtain ⟨cs, sd, A⟩ := A
  constructor
  · intro e
    subst e
    rw [A.hh] at n
    cases n
  · intro e
    subst e
    rw [A.hl] at n
    cases n
theorem Hand.off {H : Hp} {h l p : Addr} {o : HO} (A : Hand H h l) (n : H p = some o) (no : ∀ xs, o ≠ .lst xs) : p ≠ h ∧ p ≠ l := by
  obtain ⟨cs, sd, A⟩ := A
  constructor
  · intro e
    subst e
    rw [A.hh] at n
    cases n
    exact no _ rfl
  · intro e
    subst e
    rw [A.hl] at n
    cases n
    exact no _ rfl
theorem kp_tup {H H' : Hp} {h l a : Addr} {xs : List V} (A : Hand H h l) (k : Kp h l H H') (e : H a = some (.tup xs)) : H' a = some (.tup xs) := by
  obtain ⟨n, m⟩ := A.off e (fun _ z => by cases z)
  exact k a _ n m e
/-- what is new lies beside the hand -/
theorem Hand.new {H : Hp} {h l p : Addr} {o : HO} (A : Hand H h l) (n : H p = none) : Hand (upd H p o) h l := A.ex (Ex.new n)
theorem Hand.upd {H : Hp} {h l p : Addr} {o : HO} (A : Hand H h l) (n : p ≠ h) (m : p ≠ l) : Hand (upd H p o) h l := by
  obtain ⟨cs, sd, A⟩ := A
  exact ⟨cs, sd, by rw [upd_ne (Ne.symm n)]; exact A.hh, by rw [upd_ne (Ne.symm m)]; exact A.hl, A.lo, A.hi, A.few, A.pos⟩

/-! ### lists of ints compared with [] -/
theorem dpa_ints {K : PySem.W.Frag} {H : Hp} : ∀ ns : List Int, DpAll K H (ns.map V.int) (ns.map PyData.int)
  | [] => .nil
  | n :: r => .cons (.int n) (dpa_ints r)
theorem lay_ints : ∀ ns : List Int, PyData.canLayAll0 (ns.map PyData.int) = true
  | [] => by simp [PyData.canLayAll0]
  | n :: r => by simp [PyData.canLayAll0, PyData.canLay0, lay_ints r]
theorem deep_ints : ∀ ns : List Int, PyData.depthAll (ns.map PyData.int) = 0
  | [] => by simp [PyData.depthAll]
  | n :: r => by simp [PyData.depthAll, PyData.depth, deep_ints r]
theorem shaped_ints (ns : List Int) : SeqAt.shaped (.list (ns.map PyData.int)) = true := by
  unfold SeqAt.shaped
  simp [PyData.canLay0, lay_ints, PyData.depth, deep_ints]
theorem eqv_nil (ds : List PyData) : PyData.eqvAll ds [] = ds.isEmpty := by
  cases ds <;> simp [PyData.eqvAll]
theorem ev_neNil {K : PySem.W.Frag} {σ : L2.St} {H : Hp} {ta : TE} {l : Addr} {cs : List Int} (ha : Ev ta σ H (.ref l)) (hl : H l = some (.lst (cs.map V.int))) : Ev (tOp (rNeD K) ta (tLst tNil)) σ H (.bl (!cs.isEmpty)) :=
  ev_opL (xs := []) ha (el_lst ea_nil (by decide)) fun p H1 hp e1 H2 e2 Q q => ⟨.list (cs.map PyData.int), .list [], .lst (sq_of (e2 _ _ (e1 _ _ hl))) (dpa_ints cs), .lst (sq_of (e2 _ _ hp)) .nil, shaped_ints cs, by decide +kernel, by
    have e : PyData.eqv (.list (cs.map PyData.int)) (.list []) = cs.isEmpty := by
      simp only [PyData.eqv, eqv_nil]
      cases cs <;> rfl
    rw [e]
    exact q H2 (Ex.refl H2)⟩

/-! ### slices of a list of ints, from its front -/
theorem el_cut {K : PySem.W.Frag} {σ : L2.St} {H : Hp} {ta : TE} {a : Addr} {xs : List V} {n : Int} (ha : Ev ta σ H (.ref a)) (hs : SqL K H a xs) : EvL (tSl (rSlL K) ta tNoPart (tPart (tC (.int n)))) σ H (cutV xs none (some n)) := fun H1 e Q q =>
  ha H1 e _ fun H2 e2 => ⟨n, rfl, a, xs, rfl, ex_l (e.trans e2) hs, fun p hp => q p _ (fresh_back e2 hp) (e2.trans (Ex.new hp)) upd_same⟩
theorem cut_ints (ns : List Int) (n : Int) : ∃ ms : List Int, cutV (ns.map V.int) none (some n) = ms.map V.int ∧ ms.length ≤ ns.length := by
  refine ⟨(ns.drop (HT.sIx (ns.map V.int).length 0 none)).take (HT.sIx (ns.map V.int).length (ns.map V.int).length (some n) - HT.sIx (ns.map V.int).length 0 none), ?_, ?_⟩
  · unfold cutV
    rw [List.map_take, List.map_drop]
  · rw [List.length_take, List.length_drop]
    omega
end NL

namespace K05
open PySem L2 Evl NL
def top (i : Nat) : Stmt := PySem.Challenge.pw_nearlocks_k05_programs_at_their_bounds.main.body.getD i (.Pass ⟨0, 0, 0, 0⟩)
abbrev s_is_whole : Stmt := top 1
abbrev s_is_whole_from : Stmt := top 2
abbrev s_is_row_number : Stmt := top 5
abbrev s_word_fits : Stmt := top 6
abbrev s_take_fits : Stmt := top 7
abbrev s_say_fits : Stmt := top 8
abbrev s_goto_fits : Stmt := top 9
abbrev s_if_fits : Stmt := top 10
abbrev s_is_program : Stmt := top 12
abbrev s_row_fits : Stmt := top 13
abbrev s__law_hand : Stmt := top 15
abbrev s__law_pick : Stmt := top 16
abbrev s__law_of : Stmt := top 17
abbrev s__law_row : Stmt := top 18
abbrev s__law_program : Stmt := top 19
abbrev s__law_whole : Stmt := top 21
abbrev s__law_is_row : Stmt := top 22
abbrev s__law_is_program : Stmt := top 23
abbrev s__law_bounds : Stmt := top 24
abbrev s_law : Stmt := top 25
abbrev N_is_whole : List Str := ["thing"]
theorem sc_is_whole : FnScope N_is_whole ["thing"] (defScope s_is_whole) := ⟨rfl, rfl, rfl, by decide +kernel, rfl, by decide +kernel, by decide +kernel⟩
abbrev N_is_whole_from : List Str := ["thing", "least"]
theorem sc_is_whole_from : FnScope N_is_whole_from ["thing", "least"] (defScope s_is_whole_from) := ⟨rfl, rfl, rfl, by decide +kernel, rfl, by decide +kernel, by decide +kernel⟩
abbrev N_is_row_number : List Str := ["thing", "many"]
theorem sc_is_row_number : FnScope N_is_row_number ["thing", "many"] (defScope s_is_row_number) := ⟨rfl, rfl, rfl, by decide +kernel, rfl, by decide +kernel, by decide +kernel⟩
abbrev N_word_fits : List Str := ["row", "many"]
theorem sc_word_fits : FnScope N_word_fits ["row", "many"] (defScope s_word_fits) := ⟨rfl, rfl, rfl, by decide +kernel, rfl, by decide +kernel, by decide +kernel⟩
abbrev N_take_fits : List Str := ["row", "many"]
theorem sc_take_fits : FnScope N_take_fits ["row", "many"] (defScope s_take_fits) := ⟨rfl, rfl, rfl, by decide +kernel, rfl, by decide +kernel, by decide +kernel⟩
abbrev N_say_fits : List Str := ["row", "many"]
theorem sc_say_fits : FnScope N_say_fits ["row", "many"] (defScope s_say_fits) := ⟨rfl, rfl, rfl, by decide +kernel, rfl, by decide +kernel, by decide +kernel⟩
abbrev N_goto_fits : List Str := ["row", "many"]
theorem sc_goto_fits : FnScope N_goto_fits ["row", "many"] (defScope s_goto_fits) := ⟨rfl, rfl, rfl, by decide +kernel, rfl, by decide +kernel, by decide +kernel⟩
abbrev N_if_fits : List Str := ["row", "many"]
theorem sc_if_fits : FnScope N_if_fits ["row", "many"] (defScope s_if_fits) := ⟨rfl, rfl, rfl, by decide +kernel, rfl, by decide +kernel, by decide +kernel⟩
abbrev N_is_program : List Str := ["thing", "row"]
theorem sc_is_program : FnScope N_is_program ["thing"] (defScope s_is_program) := ⟨rfl, rfl, rfl, by decide +kernel, rfl, by decide +kernel, by decide +kernel⟩
abbrev N_row_fits : List Str := ["row", "many", "word", "fits"]
theorem sc_row_fits : FnScope N_row_fits ["row", "many"] (defScope s_row_fits) := ⟨rfl, rfl, rfl, by decide +kernel, rfl, by decide +kernel, by decide +kernel⟩
abbrev N__law_hand : List Str := ["_law_script", "_law_seed", "_law_cell"]
theorem sc__law_hand : FnScope N__law_hand ["_law_script"] (defScope s__law_hand) := ⟨rfl, rfl, rfl, by decide +kernel, rfl, by decide +kernel, by decide +kernel⟩
abbrev N__law_pick : List Str := ["_law_hand_here", "_law_many", "_law_mixed", "_law_digit"]
theorem sc__law_pick : FnScope N__law_pick ["_law_hand_here", "_law_many"] (defScope s__law_pick) := ⟨rfl, rfl, rfl, by decide +kernel, rfl, by decide +kernel, by decide +kernel⟩
abbrev N__law_of : List Str := ["_law_hand_here", "_law_some"]
theorem sc__law_of : FnScope N__law_of ["_law_hand_here", "_law_some"] (defScope s__law_of) := ⟨rfl, rfl, rfl, by decide +kernel, rfl, by decide +kernel, by decide +kernel⟩
abbrev N__law_row : List Str := ["_law_hand_here", "_law_size", "_law_word"]
theorem sc__law_row : FnScope N__law_row ["_law_hand_here", "_law_size"] (defScope s__law_row) := ⟨rfl, rfl, rfl, by decide +kernel, rfl, by decide +kernel, by decide +kernel⟩
abbrev N__law_program : List Str := ["_law_hand_here", "_law_upmost", "_law_size", "_law_k"]
theorem sc__law_program : FnScope N__law_program ["_law_hand_here", "_law_upmost"] (defScope s__law_program) := ⟨rfl, rfl, rfl, by decide +kernel, rfl, by decide +kernel, by decide +kernel⟩
abbrev N__law_whole : List Str := ["_law_thing", "_law_low", "_law_high"]
theorem sc__law_whole : FnScope N__law_whole ["_law_thing", "_law_low", "_law_high"] (defScope s__law_whole) := ⟨rfl, rfl, rfl, by decide +kernel, rfl, by decide +kernel, by decide +kernel⟩
abbrev N__law_is_row : List Str := ["_law_thing", "_law_size", "_law_many"]
theorem sc__law_is_row : FnScope N__law_is_row ["_law_thing", "_law_size"] (defScope s__law_is_row) := ⟨rfl, rfl, rfl, by decide +kernel, rfl, by decide +kernel, by decide +kernel⟩
abbrev N__law_is_program : List Str := ["_law_thing", "_law_row_here"]
theorem sc__law_is_program : FnScope N__law_is_program ["_law_thing"] (defScope s__law_is_program) := ⟨rfl, rfl, rfl, by decide +kernel, rfl, by decide +kernel, by decide +kernel⟩
abbrev N__law_bounds : List Str := ["_law_size", "_law_some", "_law_found", "_law_one"]
theorem sc__law_bounds : FnScope N__law_bounds ["_law_size"] (defScope s__law_bounds) := ⟨rfl, rfl, rfl, by decide +kernel, rfl, by decide +kernel, by decide +kernel⟩
abbrev N_law : List Str := ["_law_script", "_law_hand_here", "_law_upmost", "_law_program_here", "_law_at", "_law_row_here", "_law_thing", "_law_found"]
theorem sc_law : FnScope N_law ["_law_script"] (defScope s_law) := ⟨rfl, rfl, rfl, by decide +kernel, rfl, by decide +kernel, by decide +kernel⟩
/-! ### the facts of the top -/
structure Tp (w : World) (K : PySem.W.Frag) (mg : Str → Option Value) where
  f_is_whole : Addr
  d_is_whole : FuncData
  F_is_whole : Fun K "is_whole" "is_whole" s_is_whole f_is_whole d_is_whole
  m_is_whole : mg "is_whole" = some (.ref f_is_whole)
  f_is_whole_from : Addr
  d_is_whole_from : FuncData
  F_is_whole_from : Fun K "is_whole_from" "is_whole_from" s_is_whole_from f_is_whole_from d_is_whole_from
  m_is_whole_from : mg "is_whole_from" = some (.ref f_is_whole_from)
  f_is_row_number : Addr
  d_is_row_number : FuncData
  F_is_row_number : Fun K "is_row_number" "is_row_number" s_is_row_number f_is_row_number d_is_row_number
  m_is_row_number : mg "is_row_number" = some (.ref f_is_row_number)
  f_word_fits : Addr
  d_word_fits : FuncData
  F_word_fits : Fun K "word_fits" "word_fits" s_word_fits f_word_fits d_word_fits
  m_word_fits : mg "word_fits" = some (.ref f_word_fits)
  f_take_fits : Addr
  d_take_fits : FuncData
  F_take_fits : Fun K "take_fits" "take_fits" s_take_fits f_take_fits d_take_fits
  m_take_fits : mg "take_fits" = some (.ref f_take_fits)
  f_say_fits : Addr
  d_say_fits : FuncData
  F_say_fits : Fun K "say_fits" "say_fits" s_say_fits f_say_fits d_say_fits
  m_say_fits : mg "say_fits" = some (.ref f_say_fits)
  f_goto_fits : Addr
  d_goto_fits : FuncData
  F_goto_fits : Fun K "goto_fits" "goto_fits" s_goto_fits f_goto_fits d_goto_fits
  m_goto_fits : mg "goto_fits" = some (.ref f_goto_fits)
  f_if_fits : Addr
  d_if_fits : FuncData
  F_if_fits : Fun K "if_fits" "if_fits" s_if_fits f_if_fits d_if_fits
  m_if_fits : mg "if_fits" = some (.ref f_if_fits)
  f_is_program : Addr
  d_is_program : FuncData
  F_is_program : Fun K "is_program" "is_program" s_is_program f_is_program d_is_program
  m_is_program : mg "is_program" = some (.ref f_is_program)
  f_row_fits : Addr
  d_row_fits : FuncData
  F_row_fits : Fun K "row_fits" "row_fits" s_row_fits f_row_fits d_row_fits
  m_row_fits : mg "row_fits" = some (.ref f_row_fits)
  f__law_hand : Addr
  d__law_hand : FuncData
  F__law_hand : Fun K "_law_hand" "_law_hand" s__law_hand f__law_hand d__law_hand
  m__law_hand : mg "_law_hand" = some (.ref f__law_hand)
  f__law_pick : Addr
  d__law_pick : FuncData
  F__law_pick : Fun K "_law_pick" "_law_pick" s__law_pick f__law_pick d__law_pick
  m__law_pick : mg "_law_pick" = some (.ref f__law_pick)
  f__law_of : Addr
  d__law_of : FuncData
  F__law_of : Fun K "_law_of" "_law_of" s__law_of f__law_of d__law_of
  m__law_of : mg "_law_of" = some (.ref f__law_of)
  f__law_row : Addr
  d__law_row : FuncData
  F__law_row : Fun K "_law_row" "_law_row" s__law_row f__law_row d__law_row
  m__law_row : mg "_law_row" = some (.ref f__law_row)
  f__law_program : Addr
  d__law_program : FuncData
  F__law_program : Fun K "_law_program" "_law_program" s__law_program f__law_program d__law_program
  m__law_program : mg "_law_program" = some (.ref f__law_program)
  f__law_whole : Addr
  d__law_whole : FuncData
  F__law_whole : Fun K "_law_whole" "_law_whole" s__law_whole f__law_whole d__law_whole
  m__law_whole : mg "_law_whole" = some (.ref f__law_whole)
  f__law_is_row : Addr
  d__law_is_row : FuncData
  F__law_is_row : Fun K "_law_is_row" "_law_is_row" s__law_is_row f__law_is_row d__law_is_row
  m__law_is_row : mg "_law_is_row" = some (.ref f__law_is_row)
  f__law_is_program : Addr
  d__law_is_program : FuncData
  F__law_is_program : Fun K "_law_is_program" "_law_is_program" s__law_is_program f__law_is_program d__law_is_program
  m__law_is_program : mg "_law_is_program" = some (.ref f__law_is_program)
  f__law_bounds : Addr
  d__law_bounds : FuncData
  F__law_bounds : Fun K "_law_bounds" "_law_bounds" s__law_bounds f__law_bounds d__law_bounds
  m__law_bounds : mg "_law_bounds" = some (.ref f__law_bounds)
  f_law : Addr
  d_law : FuncData
  F_law : Fun K "law" "law" s_law f_law d_law
  m_law : mg "law" = some (.ref f_law)
  z_all : mg "all" = none
  z_bool : mg "bool" = none
  z_int : mg "int" = none
  z_isinstance : mg "isinstance" = none
  z_len : mg "len" = none
  z_min : mg "min" = none
  z_range : mg "range" = none
  z_str : mg "str" = none
  z_tuple : mg "tuple" = none
  t_MOST_SAID : Tok
  c_MOST_SAID : mg "MOST_SAID" = some (.int 99 t_MOST_SAID)
  a_FORMS : Addr
  c_FORMS : mg "FORMS" = some (.ref a_FORMS)
  D_FORMS : KTab K w a_FORMS (fun z => if z = "take" then some (.ref f_take_fits) else if z = "try" then some (.ref f_word_fits) else if z = "let" then some (.ref f_word_fits) else if z = "say" then some (.ref f_say_fits) else if z = "goto" then some (.ref f_goto_fits) else if z = "if" then some (.ref f_if_fits) else none)
  nd : [f_take_fits, f_word_fits, f_say_fits, f_goto_fits, f_if_fits].Nodup
theorem b_is_whole {w : World} {K : PySem.W.Frag} {mg : Str → Option Value} (T : Tp w K mg) : Binds K T.d_is_whole ["thing"] [] := T.F_is_whole.binds fun _ _ _ _ _ _ us hl => match us, hl with | [_], _ => rfl
theorem b_is_whole_from {w : World} {K : PySem.W.Frag} {mg : Str → Option Value} (T : Tp w K mg) : Binds K T.d_is_whole_from ["thing", "least"] [] := T.F_is_whole_from.binds fun _ _ _ _ _ _ us hl => match us, hl with | [_, _], _ => rfl
theorem b_is_row_number {w : World} {K : PySem.W.Frag} {mg : Str → Option Value} (T : Tp w K mg) : Binds K T.d_is_row_number ["thing", "many"] [] := T.F_is_row_number.binds fun _ _ _ _ _ _ us hl => match us, hl with | [_, _], _ => rfl
theorem b_word_fits {w : World} {K : PySem.W.Frag} {mg : Str → Option Value} (T : Tp w K mg) : Binds K T.d_word_fits ["row", "many"] [] := T.F_word_fits.binds fun _ _ _ _ _ _ us hl => match us, hl with | [_, _], _ => rfl
theorem b_take_fits {w : World} {K : PySem.W.Frag} {mg : Str → Option Value} (T : Tp w K mg) : Binds K T.d_take_fits ["row", "many"] [] := T.F_take_fits.binds fun _ _ _ _ _ _ us hl => match us, hl with | [_, _], _ => rfl
theorem b_say_fits {w : World} {K : PySem.W.Frag} {mg : Str → Option Value} (T : Tp w K mg) : Binds K T.d_say_fits ["row", "many"] [] := T.F_say_fits.binds fun _ _ _ _ _ _ us hl => match us, hl with | [_, _], _ => rfl
theorem b_goto_fits {w : World} {K : PySem.W.Frag} {mg : Str → Option Value} (T : Tp w K mg) : Binds K T.d_goto_fits ["row", "many"] [] := T.F_goto_fits.binds fun _ _ _ _ _ _ us hl => match us, hl with | [_, _], _ => rfl
theorem b_if_fits {w : World} {K : PySem.W.Frag} {mg : Str → Option Value} (T : Tp w K mg) : Binds K T.d_if_fits ["row", "many"] [] := T.F_if_fits.binds fun _ _ _ _ _ _ us hl => match us, hl with | [_, _], _ => rfl
theorem b_is_program {w : World} {K : PySem.W.Frag} {mg : Str → Option Value} (T : Tp w K mg) : Binds K T.d_is_program ["thing"] [] := T.F_is_program.binds fun _ _ _ _ _ _ us hl => match us, hl with | [_], _ => rfl
theorem b_row_fits {w : World} {K : PySem.W.Frag} {mg : Str → Option Value} (T : Tp w K mg) : Binds K T.d_row_fits ["row", "many"] [] := T.F_row_fits.binds fun _ _ _ _ _ _ us hl => match us, hl with | [_, _], _ => rfl
theorem b__law_hand {w : World} {K : PySem.W.Frag} {mg : Str → Option Value} (T : Tp w K mg) : Binds K T.d__law_hand ["_law_script"] [] := T.F__law_hand.binds fun _ _ _ _ _ _ us hl => match us, hl with | [_], _ => rfl
theorem b__law_pick {w : World} {K : PySem.W.Frag} {mg : Str → Option Value} (T : Tp w K mg) : Binds K T.d__law_pick ["_law_hand_here", "_law_many"] [] := T.F__law_pick.binds fun _ _ _ _ _ _ us hl => match us, hl with | [_, _], _ => rfl
theorem b__law_of {w : World} {K : PySem.W.Frag} {mg : Str → Option Value} (T : Tp w K mg) : Binds K T.d__law_of ["_law_hand_here", "_law_some"] [] := T.F__law_of.binds fun _ _ _ _ _ _ us hl => match us, hl with | [_, _], _ => rfl
theorem b__law_row {w : World} {K : PySem.W.Frag} {mg : Str → Option Value} (T : Tp w K mg) : Binds K T.d__law_row ["_law_hand_here", "_law_size"] [] := T.F__law_row.binds fun _ _ _ _ _ _ us hl => match us, hl with | [_, _], _ => rfl
theorem b__law_program {w : World} {K : PySem.W.Frag} {mg : Str → Option Value} (T : Tp w K mg) : Binds K T.d__law_program ["_law_hand_here", "_law_upmost"] [] := T.F__law_program.binds fun _ _ _ _ _ _ us hl => match us, hl with | [_, _], _ => rfl
theorem b__law_whole {w : World} {K : PySem.W.Frag} {mg : Str → Option Value} (T : Tp w K mg) : Binds K T.d__law_whole ["_law_thing", "_law_low", "_law_high"] [] := T.F__law_whole.binds fun _ _ _ _ _ _ us hl => match us, hl with | [_, _, _], _ => rfl
theorem b__law_is_row {w : World} {K : PySem.W.Frag} {mg : Str → Option Value} (T : Tp w K mg) : Binds K T.d__law_is_row ["_law_thing", "_law_size"] [] := T.F__law_is_row.binds fun _ _ _ _ _ _ us hl => match us, hl with | [_, _], _ => rfl
theorem b__law_is_program {w : World} {K : PySem.W.Frag} {mg : Str → Option Value} (T : Tp w K mg) : Binds K T.d__law_is_program ["_law_thing"] [] := T.F__law_is_program.binds fun _ _ _ _ _ _ us hl => match us, hl with | [_], _ => rfl
theorem b__law_bounds {w : World} {K : PySem.W.Frag} {mg : Str → Option Value} (T : Tp w K mg) : Binds K T.d__law_bounds ["_law_size"] [] := T.F__law_bounds.binds fun _ _ _ _ _ _ us hl => match us, hl with | [_], _ => rfl
theorem b_law {w : World} {K : PySem.W.Frag} {mg : Str → Option Value} (T : Tp w K mg) : Binds K T.d_law ["_law_script"] [] := T.F_law.binds fun _ _ _ _ _ _ us hl => match us, hl with | [_], _ => rfl

/-! ### what the program's own defs tell -/
def isWhole : PyData → Bool
  | .int _ => true | _ => false
def wholeFrom (d : PyData) (k : Int) : Bool := match d with
  | .int i => decide (k ≤ i)
  | _ => false
def rowNum (d : PyData) (many : Int) : Bool := match d with
  | .int i => decide (0 ≤ i) && decide (i < many)
  | _ => false
def wordFits (ds : List PyData) : Bool := decide (ds.length = 1)
def takeFits (ds : List PyData) : Bool := match ds with
  | [_, .none] => true
  | [_, d] => wholeFrom d 0
  | _ => false
def sayFits (ds : List PyData) : Bool := match ds with
  | [_, .int i] => decide (0 ≤ i) && decide (i ≤ 99)
  | _ => false
def gotoFits (ds : List PyData) (many : Int) : Bool := match ds with
  | [_, d] => rowNum d many
  | _ => false
def ifFits (ds : List PyData) (many : Int) : Bool := match ds with
  | [_, d, e] => isWhole d && rowNum e many
  | _ => false
def rowFits (d : PyData) (many : Int) : Bool := match d with
  | .tuple (.str z :: ds) => if z = "take" then takeFits (.str z :: ds) else if z = "try" then wordFits (.str z :: ds) else if z = "let" then wordFits (.str z :: ds) else if z = "say" then sayFits (.str z :: ds) else if z = "goto" then gotoFits (.str z :: ds) many else if z = "if" then ifFits (.str z :: ds) many else false
  | _ => false
def progFits : PyData → Bool
  | .tuple ds => ds.all fun d => rowFits d ds.length
  | _ => false

theorem and_of {a b : Bool} (h : b = true → a = true) : (a && b) = b := by
  cases b with
  | false => exact Bool.and_false a
  | true => rw [h rfl] <;> rfl
theorem len_is {n m : Nat} (h : decide (V.int (n : Int) = V.int (m : Int)) = true) : n = m := by
  have e : V.int (n : Int) = V.int (m : Int) := of_decide_eq_true h
  have e2 : (n : Int) = (m : Int) := V.int.inj e
  omega
theorem is_len {n m : Nat} (h : n = m) : decide (V.int (n : Int) = V.int (m : Int)) = true := by
  subst h
  exact decide_eq_true rfl
theorem dpa2 {K : PySem.W.Frag} {H : Hp} {xs : List V} {ds : List PyData} (h : DpAll K H xs ds) (e : xs.length = 2) : ∃ x y d f, xs = [x, y] ∧ ds = [d, f] ∧ Dp K H x d ∧ Dp K H y f := by
  cases h with
  | nil => simp at e
  | cons h1 t =>
    cases t with
    | nil => simp at e
    | cons h2 t =>
      cases t with
      | nil => exact ⟨_, _, _, _, rfl, rfl, h1, h2⟩
      | cons _ _ => simp at e
theorem dpa3 {K : PySem.W.Frag} {H : Hp} {xs : List V} {ds : List PyData} (h : DpAll K H xs ds) (e : xs.length = 3) : ∃ x y z d f g, xs = [x, y, z] ∧ ds = [d, f, g] ∧ Dp K H x d ∧ Dp K H y f ∧ Dp K H z g := by
  cases h with
  | nil => simp at e
  | cons h1 t =>
    obtain ⟨y, z, f, g, rfl, rfl, hy, hz⟩ := dpa2 t (by simpa using e)
    exact ⟨_, _, _, _, _, _, rfl, rfl, h1, hy, hz⟩
theorem takeFits_len {ds : List PyData} (h : takeFits ds = true) : ds.length = 2 := by
  unfold takeFits at h
  split at h
  · rfl
  · rfl
  · cases h
theorem sayFits_len {ds : List PyData} (h : sayFits ds = true) : ds.length = 2 := by
  unfold sayFits at h
  split at h
  · rfl
  · cases h
theorem gotoFits_len {ds : List PyData} {k : Int} (h : gotoFits ds k = true) : ds.length = 2 := by
  unfold gotoFits at h
  split at h
  · rfl
  · cases h
theorem ifFits_len {ds : List PyData} {k : Int} (h : ifFits ds k = true) : ds.length = 3 := by
  unfold ifFits at h
  split at h
  · rfl
  · cases h

/-! ### promises -/
def spWhole (K : PySem.W.Frag) : Sp := fun vs H Q _ => ∃ v d, vs = [v] ∧ Dp K H v d ∧ ∀ H', Ex H H' → Q (.bl (isWhole d)) H'
def spFrom (K : PySem.W.Frag) : Sp := fun vs H Q _ => ∃ v d k, vs = [v, .int k] ∧ Dp K H v d ∧ ∀ H', Ex H H' → Q (.bl (wholeFrom d k)) H'
def spNum (K : PySem.W.Frag) : Sp := fun vs H Q _ => ∃ v d k, vs = [v, .int k] ∧ Dp K H v d ∧ ∀ H', Ex H H' → Q (.bl (rowNum d k)) H'
def spFit (K : PySem.W.Frag) (f : List PyData → Int → Bool) : Sp := fun vs H Q _ => ∃ a xs ds k, vs = [.ref a, .int k] ∧ SqT K H a xs ∧ DpAll K H xs ds ∧ xs.length ≤ 40000 ∧ ∀ H', Ex H H' → Q (.bl (f ds k)) H'
def spRowFits (K : PySem.W.Frag) : Sp := fun vs H Q _ => ∃ v d k, vs = [v, .int k] ∧ Dp K H v d ∧ (∀ ds, d = .tuple ds → ds.length ≤ 40000) ∧ ∀ H', Ex H H' → Q (.bl (rowFits d k)) H'
def rowsSmall : PyData → Prop
  | .tuple ds => ds.length ≤ 40000 ∧ ∀ d ∈ ds, ∀ es, d = .tuple es → es.length ≤ 40000
  | _ => True
def spProg (K : PySem.W.Frag) : Sp := fun vs H Q _ => ∃ v d, vs = [v] ∧ Dp K H v d ∧ rowsSmall d ∧ ∀ H', Ex H H' → Q (.bl (progFits d)) H'

section
variable {P : Program} {w : World} {K : PySem.W.Frag} {mg : Str → Option Value} {base : Heap}
theorem ok_is_whole (T : Tp w K mg) : FnOk P w K mg base CX0 1 T.f_is_whole T.d_is_whole ["thing"] (spWhole K) := by
  refine T.F_is_whole.ok sc_is_whole (fun vs H Q E h => ?_) (fun cdv A outer s H vs Q E hr h => ?_)
  · obtain ⟨v, d, rfl, _⟩ := h
    rfl
  obtain ⟨v, d, rfl, hd, q⟩ := h
  refine ⟨_, (pss_one (ps_ret (pe_and (pe_callB (isiK (K := K) rfl) rfl T.z_isinstance (by decide +kernel) (pa_cons (pv 0) (pa_cons (pe_bltn (v := .ty "int") rfl T.z_int (by decide +kernel) rfl) pa_nil (star1 rfl)) (star1 rfl)) (by decide) (by decide) (star1 rfl) (starAll rfl)) (pe_one (pe_not (pe_callB (isiK (K := K) rfl) rfl T.z_isinstance (by decide +kernel) (pa_cons (pv 0) (pa_cons (pe_bltn (v := .ty "bool") rfl T.z_bool (by decide +kernel) rfl) pa_nil (star1 rfl)) (star1 rfl)) (by decide) (by decide) (star1 rfl) (starAll rfl))))))), ?_⟩
  refine s_ret (ev_is (ev_andV (ev_isi (ev_var rfl) hd (kt_int d)) fun _ => ev_notV (ev_isi (ev_var rfl) hd (kt_bool d))) ?_) q
  cases d <;> rfl
theorem ok_is_whole_from (T : Tp w K mg) : FnOk P w K mg base CX0 2 T.f_is_whole_from T.d_is_whole_from ["thing", "least"] (spFrom K) := by
  refine T.F_is_whole_from.ok sc_is_whole_from (fun vs H Q E h => ?_) (fun cdv A outer s H vs Q E hr h => ?_)
  · obtain ⟨v, d, k, rfl, _⟩ := h
    rfl
  obtain ⟨v, d, k, rfl, hd, q⟩ := h
  refine ⟨_, (pss_one (ps_ret (pe_and (pe_call (ok_is_whole T) (hr.mono (by decide)) rfl T.m_is_whole T.F_is_whole.kp (b_is_whole T) .nil pass0 (pa_cons (pv 0) pa_nil (star1 rfl)) (by decide) (star1 rfl) (starAll rfl)) (pe_one (pe_cmpR op_ge (pv 0) (pv 1) (nomark _)))))), ?_⟩
  refine s_ret (ev_is (ev_andV (b := wholeFrom d k) (ev_call (ea_cons (ev_var rfl) ea_nil) fun H1 e Q' q' E => ⟨v, d, rfl, dp_mono e hd, q'⟩) fun hw => ?_) ?_) q
  · cases hd with
    | int i => exact ev_I0 (ev_var rfl) (ev_var rfl)
    | _ => cases hw
  · cases d <;> rfl
theorem ok_is_row_number (T : Tp w K mg) : FnOk P w K mg base CX0 3 T.f_is_row_number T.d_is_row_number ["thing", "many"] (spNum K) := by
  refine T.F_is_row_number.ok sc_is_row_number (fun vs H Q E h => ?_) (fun cdv A outer s H vs Q E hr h => ?_)
  · obtain ⟨v, d, k, rfl, _⟩ := h
    rfl
  obtain ⟨v, d, k, rfl, hd, q⟩ := h
  refine ⟨_, (pss_one (ps_ret (pe_and (pe_call (ok_is_whole_from T) (hr.mono (by decide)) rfl T.m_is_whole_from T.F_is_whole_from.kp (b_is_whole_from T) .nil pass0 (pa_cons (pv 0) (pa_cons pe_int pa_nil (star1 rfl)) (star1 rfl)) (by decide) (star1 rfl) (starAll rfl)) (pe_one (pe_cmpR op_lt (pv 0) (pv 1) (nomark _)))))), ?_⟩
  refine s_ret (ev_is (ev_andV (a := wholeFrom d 0) (b := rowNum d k) (ev_call (ea_cons (ev_var rfl) (ea_cons ev_c ea_nil)) fun H1 e Q' q' E => ⟨v, d, 0, rfl, dp_mono e hd, q'⟩) fun hw => ?_) ?_) q
  · cases hd with
    | int i =>
      refine ev_is (ev_I0 (ev_var rfl) (ev_var rfl)) ?_
      have h0 : (0 : Int) ≤ i := of_decide_eq_true hw
      show V.bl (decide (i < k)) = V.bl (decide (0 ≤ i) && decide (i < k))
      rw [decide_eq_true h0, Bool.true_and]
    | _ => cases hw
  · cases d <;> simp [wholeFrom, rowNum]
theorem ok_word_fits (T : Tp w K mg) : FnOk P w K mg base CX0 1 T.f_word_fits T.d_word_fits ["row", "many"] (spFit K fun ds _ => wordFits ds) := by
  refine T.F_word_fits.ok sc_word_fits (fun vs H Q E h => ?_) (fun cdv A outer s H vs Q E hr h => ?_)
  · obtain ⟨a, xs, ds, k, rfl, _⟩ := h
    rfl
  obtain ⟨a, xs, ds, k, rfl, hs, hd, hz, q⟩ := h
  refine ⟨_, (pss_one (ps_ret (pe_cmpR op_eq (pe_callB (lenK (K := K) rfl) rfl T.z_len PySem.boot_len (pa_cons (pv 0) pa_nil (star1 rfl)) (by decide) (by decide) (star1 rfl) (starAll rfl)) pe_int (nomark _)))), ?_⟩
  refine s_ret (ev_is (ev_eq (ev_lenT (ev_var rfl) hs) ev_c rfl) ?_) q
  rw [dpa_len hd]
  unfold wordFits
  congr 1
  simp
  omega
theorem ok_take_fits (T : Tp w K mg) : FnOk P w K mg base CX0 3 T.f_take_fits T.d_take_fits ["row", "many"] (spFit K fun ds _ => takeFits ds) := by
  refine T.F_take_fits.ok sc_take_fits (fun vs H Q E h => ?_) (fun cdv A outer s H vs Q E hr h => ?_)
  · obtain ⟨a, xs, ds, k, rfl, _⟩ := h
    rfl
  obtain ⟨a, xs, ds, k, rfl, hs, hd, hz, q⟩ := h
  refine ⟨_, (pss_one (ps_ret (pe_and (pe_cmpR op_eq (pe_callB (lenK (K := K) rfl) rfl T.z_len PySem.boot_len (pa_cons (pv 0) pa_nil (star1 rfl)) (by decide) (by decide) (star1 rfl) (starAll rfl)) pe_int (nomark _)) (pe_one (pe_or (pe_cmp (pc_isN (pe_ix (ixTK (K := K) rfl) (pv 0) pe_int (fun _ _ => rfl)))) (pe_one (pe_call (ok_is_whole_from T) (hr.mono (by decide)) rfl T.m_is_whole_from T.F_is_whole_from.kp (b_is_whole_from T) .nil pass0 (pa_cons (pe_ix (ixTK (K := K) rfl) (pv 0) pe_int (fun _ _ => rfl)) (pa_cons pe_int pa_nil (star1 rfl)) (star1 rfl)) (by decide) (star1 rfl) (starAll rfl)))))))), ?_⟩
  refine s_ret (ev_is (ev_andV (b := takeFits ds) (ev_eq (ev_lenT (ev_var rfl) hs) ev_c rfl) fun hl => ?_) (congrArg V.bl (and_of fun hb => is_len (m := 2) ((dpa_len hd).trans (takeFits_len hb))))) q
  obtain ⟨x, y, d, f, rfl, rfl, hx, hy⟩ := dpa2 hd (len_is (m := 2) hl)
  refine ev_is (ev_orV (ev_isN (ev_ixT (v := y) (ev_var rfl) ev_c hs rfl)) fun _ => ev_call (ea_cons (ev_ixT (v := y) (ev_var rfl) ev_c hs rfl) (ea_cons ev_c ea_nil)) fun H1 e Q' q' E => ⟨y, f, 0, rfl, dp_mono e hy, q'⟩) ?_
  cases hy <;> simp [takeFits]
theorem ok_say_fits (T : Tp w K mg) : FnOk P w K mg base CX0 3 T.f_say_fits T.d_say_fits ["row", "many"] (spFit K fun ds _ => sayFits ds) := by
  refine T.F_say_fits.ok sc_say_fits (fun vs H Q E h => ?_) (fun cdv A outer s H vs Q E hr h => ?_)
  · obtain ⟨a, xs, ds, k, rfl, _⟩ := h
    rfl
  obtain ⟨a, xs, ds, k, rfl, hs, hd, hz, q⟩ := h
  refine ⟨_, (pss_one (ps_ret (pe_and (pe_cmpR op_eq (pe_callB (lenK (K := K) rfl) rfl T.z_len PySem.boot_len (pa_cons (pv 0) pa_nil (star1 rfl)) (by decide) (by decide) (star1 rfl) (starAll rfl)) pe_int (nomark _)) (pe_and (pe_call (ok_is_whole_from T) (hr.mono (by decide)) rfl T.m_is_whole_from T.F_is_whole_from.kp (b_is_whole_from T) .nil pass0 (pa_cons (pe_ix (ixTK (K := K) rfl) (pv 0) pe_int (fun _ _ => rfl)) (pa_cons pe_int pa_nil (star1 rfl)) (star1 rfl)) (by decide) (star1 rfl) (starAll rfl)) (pe_one (pe_cmpR op_le (pe_ix (ixTK (K := K) rfl) (pv 0) pe_int (fun _ _ => rfl)) (pe_glob (v := .int 99) rfl T.c_MOST_SAID ⟨_, rfl⟩) (nomark _))))))), ?_⟩
  refine s_ret (ev_is (ev_andV (b := sayFits ds) (ev_eq (ev_lenT (ev_var rfl) hs) ev_c rfl) fun hl => ?_) (congrArg V.bl (and_of fun hb => is_len (m := 2) ((dpa_len hd).trans (sayFits_len hb))))) q
  obtain ⟨x, y, d, f, rfl, rfl, hx, hy⟩ := dpa2 hd (len_is (m := 2) hl)
  refine ev_is (ev_andV (a := wholeFrom f 0) (b := sayFits [d, f]) (ev_call (ea_cons (ev_ixT (v := y) (ev_var rfl) ev_c hs rfl) (ea_cons ev_c ea_nil)) fun H1 e Q' q' E => ⟨y, f, 0, rfl, dp_mono e hy, q'⟩) fun hw => ?_) ?_
  · cases hy with
    | int i =>
      refine ev_is (ev_I0 (ev_ixT (v := .int i) (ev_var rfl) ev_c hs rfl) ev_c) ?_
      have h0 : (0 : Int) ≤ i := of_decide_eq_true hw
      show V.bl (decide (i ≤ 99)) = V.bl (decide (0 ≤ i) && decide (i ≤ 99))
      rw [decide_eq_true h0, Bool.true_and]
    | _ => cases hw
  · cases f <;> simp [wholeFrom, sayFits]
theorem ok_goto_fits (T : Tp w K mg) : FnOk P w K mg base CX0 4 T.f_goto_fits T.d_goto_fits ["row", "many"] (spFit K fun ds k => gotoFits ds k) := by
  refine T.F_goto_fits.ok sc_goto_fits (fun vs H Q E h => ?_) (fun cdv A outer s H vs Q E hr h => ?_)
  · obtain ⟨a, xs, ds, k, rfl, _⟩ := h
    rfl
  obtain ⟨a, xs, ds, k, rfl, hs, hd, hz, q⟩ := h
  refine ⟨_, (pss_one (ps_ret (pe_and (pe_cmpR op_eq (pe_callB (lenK (K := K) rfl) rfl T.z_len PySem.boot_len (pa_cons (pv 0) pa_nil (star1 rfl)) (by decide) (by decide) (star1 rfl) (starAll rfl)) pe_int (nomark _)) (pe_one (pe_call (ok_is_row_number T) (hr.mono (by decide)) rfl T.m_is_row_number T.F_is_row_number.kp (b_is_row_number T) .nil pass0 (pa_cons (pe_ix (ixTK (K := K) rfl) (pv 0) pe_int (fun _ _ => rfl)) (pa_cons (pv 1) pa_nil (star1 rfl)) (star1 rfl)) (by decide) (star1 rfl) (starAll rfl)))))), ?_⟩
  refine s_ret (ev_is (ev_andV (b := gotoFits ds k) (ev_eq (ev_lenT (ev_var rfl) hs) ev_c rfl) fun hl => ?_) (congrArg V.bl (and_of fun hb => is_len (m := 2) ((dpa_len hd).trans (gotoFits_len hb))))) q
  obtain ⟨x, y, d, f, rfl, rfl, hx, hy⟩ := dpa2 hd (len_is (m := 2) hl)
  exact ev_call (ea_cons (ev_ixT (v := y) (ev_var rfl) ev_c hs rfl) (ea_cons (ev_var rfl) ea_nil)) fun H1 e Q' q' E => ⟨y, f, k, rfl, dp_mono e hy, q'⟩
theorem ok_if_fits (T : Tp w K mg) : FnOk P w K mg base CX0 4 T.f_if_fits T.d_if_fits ["row", "many"] (spFit K fun ds k => ifFits ds k) := by
  refine T.F_if_fits.ok sc_if_fits (fun vs H Q E h => ?_) (fun cdv A outer s H vs Q E hr h => ?_)
  · obtain ⟨a, xs, ds, k, rfl, _⟩ := h
    rfl
  obtain ⟨a, xs, ds, k, rfl, hs, hd, hz, q⟩ := h
  refine ⟨_, (pss_one (ps_ret (pe_and (pe_cmpR op_eq (pe_callB (lenK (K := K) rfl) rfl T.z_len PySem.boot_len (pa_cons (pv 0) pa_nil (star1 rfl)) (by decide) (by decide) (star1 rfl) (starAll rfl)) pe_int (nomark _)) (pe_and (pe_call (ok_is_whole T) (hr.mono (by decide)) rfl T.m_is_whole T.F_is_whole.kp (b_is_whole T) .nil pass0 (pa_cons (pe_ix (ixTK (K := K) rfl) (pv 0) pe_int (fun _ _ => rfl)) pa_nil (star1 rfl)) (by decide) (star1 rfl) (starAll rfl)) (pe_one (pe_call (ok_is_row_number T) (hr.mono (by decide)) rfl T.m_is_row_number T.F_is_row_number.kp (b_is_row_number T) .nil pass0 (pa_cons (pe_ix (ixTK (K := K) rfl) (pv 0) pe_int (fun _ _ => rfl)) (pa_cons (pv 1) pa_nil (star1 rfl)) (star1 rfl)) (by decide) (star1 rfl) (starAll rfl))))))), ?_⟩
  refine s_ret (ev_is (ev_andV (b := ifFits ds k) (ev_eq (ev_lenT (ev_var rfl) hs) ev_c rfl) fun hl => ?_) (congrArg V.bl (and_of fun hb => is_len (m := 3) ((dpa_len hd).trans (ifFits_len hb))))) q
  obtain ⟨x, y, z, d, f, g, rfl, rfl, hx, hy, hz⟩ := dpa3 hd (len_is (m := 3) hl)
  exact ev_andV (a := isWhole f) (b := rowNum g k) (ev_call (ea_cons (ev_ixT (v := y) (ev_var rfl) ev_c hs rfl) ea_nil) fun H1 e Q' q' E => ⟨y, f, rfl, dp_mono e hy, q'⟩)
    fun _ => ev_call (ea_cons (ev_ixT (v := z) (ev_var rfl) ev_c hs rfl) (ea_cons (ev_var rfl) ea_nil)) fun H1 e Q' q' E => ⟨z, g, k, rfl, dp_mono e hz, q'⟩
end

section
variable {P : Program} {w : World} {K : PySem.W.Frag} {mg : Str → Option Value} {base : Heap}
theorem ev_callA {i : Nat} {S : Addr → Option Sp} {t : TA} {σ : L2.St} {H : Hp} {vs : List V} {z : V} {f : Addr} {sp : Sp} (hf : σ[i]? = some (some (.ref f))) (hS : S f = some sp) (h : EvA t σ H vs) (hs : SpV sp vs H z) : Ev (tCallA i S t) σ H z := by
  intro H1 e Q q
  exact ⟨f, sp, hf, hS, h H1 e _ fun H2 e2 => hs H2 (e.trans e2) Q (fun H3 e3 => q H3 (e2.trans e3)) _⟩
/-- which promise goes with which def of the table -/
def fitS (T : Tp w K mg) : Addr → Option Sp := fun f =>
  if f = T.f_take_fits then some (spFit K fun ds _ => takeFits ds) else if f = T.f_word_fits then some (spFit K fun ds _ => wordFits ds) else if f = T.f_say_fits then some (spFit K fun ds _ => sayFits ds) else if f = T.f_goto_fits then some (spFit K fun ds k => gotoFits ds k) else if f = T.f_if_fits then some (spFit K fun ds k => ifFits ds k) else none
theorem fit_take (T : Tp w K mg) : fitS T T.f_take_fits = some (spFit K fun ds _ => takeFits ds) := if_pos rfl
theorem fit_word (T : Tp w K mg) : fitS T T.f_word_fits = some (spFit K fun ds _ => wordFits ds) := by
  have n := T.nd
  simp only [List.nodup_cons, List.mem_cons, List.not_mem_nil, or_false, not_or] at n
  unfold fitS
  rw [if_neg (fun z => n.1.1 z.symm), if_pos rfl]
theorem fit_say (T : Tp w K mg) : fitS T T.f_say_fits = some (spFit K fun ds _ => sayFits ds) := by
  have n := T.nd
  simp only [List.nodup_cons, List.mem_cons, List.not_mem_nil, or_false, not_or] at n
  unfold fitS
  rw [if_neg (fun z => n.1.2.1 z.symm), if_neg (fun z => n.2.1.1 z.symm), if_pos rfl]
theorem fit_goto (T : Tp w K mg) : fitS T T.f_goto_fits = some (spFit K fun ds k => gotoFits ds k) := by
  have n := T.nd
  simp only [List.nodup_cons, List.mem_cons, List.not_mem_nil, or_false, not_or] at n
  unfold fitS
  rw [if_neg (fun z => n.1.2.2.1 z.symm), if_neg (fun z => n.2.1.2.1 z.symm), if_neg (fun z => n.2.2.1.1 z.symm), if_pos rfl]
theorem fit_if (T : Tp w K mg) : fitS T T.f_if_fits = some (spFit K fun ds k => ifFits ds k) := by
  have n := T.nd
  simp only [List.nodup_cons, List.mem_cons, List.not_mem_nil, or_false, not_or] at n
  unfold fitS
  rw [if_neg (fun z => n.1.2.2.2 z.symm), if_neg (fun z => n.2.1.2.2 z.symm), if_neg (fun z => n.2.2.1.2 z.symm), if_neg (fun z => n.2.2.2.1 z.symm), if_pos rfl]
theorem fitHeld (T : Tp w K mg) : ∀ f sp, fitS T f = some sp → Held P w K mg base 4 f sp := by
  intro f sp h
  unfold fitS at h
  split at h
  · rename_i e; subst e; cases h; exact ⟨_, _, (ok_take_fits T).mono (by decide), T.F_take_fits.kp, b_take_fits T⟩
  split at h
  · rename_i e; subst e; cases h; exact ⟨_, _, (ok_word_fits T).mono (by decide), T.F_word_fits.kp, b_word_fits T⟩
  split at h
  · rename_i e; subst e; cases h; exact ⟨_, _, (ok_say_fits T).mono (by decide), T.F_say_fits.kp, b_say_fits T⟩
  split at h
  · rename_i e; subst e; cases h; exact ⟨_, _, (ok_goto_fits T).mono (by decide), T.F_goto_fits.kp, b_goto_fits T⟩
  split at h
  · rename_i e; subst e; cases h; exact ⟨_, _, (ok_if_fits T).mono (by decide), T.F_if_fits.kp, b_if_fits T⟩
  cases h
theorem rowFits_no {d : PyData} {k : Int} (h : ∀ z ds, d ≠ .tuple (.str z :: ds)) : rowFits d k = false := by
  unfold rowFits
  split
  · exact absurd rfl (h _ _)
  · rfl
theorem ok_row_fits (T : Tp w K mg) : FnOk P w K mg base CX0 5 T.f_row_fits T.d_row_fits ["row", "many"] (spRowFits K) := by
  refine T.F_row_fits.ok sc_row_fits (fun vs H Q E h => ?_) (fun cdv A outer s H vs Q E hr h => ?_)
  · obtain ⟨v, d, k, rfl, _⟩ := h
    rfl
  obtain ⟨v, d, k, rfl, hd, hz, q⟩ := h
  refine ⟨_, (pss_cons (ps_if (PW.pt (pw_or (pt_not (pt_val (pe_callB (isiK (K := K) rfl) rfl T.z_isinstance (by decide +kernel) (pa_cons (pv 0) (pa_cons (pe_bltn (v := .ty "tuple") rfl T.z_tuple (by decide +kernel) rfl) pa_nil (star1 rfl)) (star1 rfl)) (by decide) (by decide) (star1 rfl) (starAll rfl)))) (pw_or1 (pt_cmpR op_eq (pe_callB (lenK (K := K) rfl) rfl T.z_len PySem.boot_len (pa_cons (pv 0) pa_nil (star1 rfl)) (by decide) (by decide) (star1 rfl) (starAll rfl)) pe_int (nomark _))))) (pss_one (ps_ret pe_bl)) pss_nil)
  (pss_cons (ps_set (i := 2) sc_row_fits.nd rfl (Or.inl rfl) (pe_ix (ixTK (K := K) rfl) (pv 0) pe_int (fun _ _ => rfl)))
  (pss_cons (ps_if (PW.pt (pw_or (pt_not (pt_val (pe_callB (isiK (K := K) rfl) rfl T.z_isinstance (by decide +kernel) (pa_cons (pv 2) (pa_cons (pe_bltn (v := .ty "str") rfl T.z_str (by decide +kernel) rfl) pa_nil (star1 rfl)) (star1 rfl)) (by decide) (by decide) (star1 rfl) (starAll rfl)))) (pw_or1 (pt_cmpR op_notInK (pv 2) (pe_glob (v := .ref T.a_FORMS) rfl T.c_FORMS rfl) (by with_unfolding_all rfl))))) (pss_one (ps_ret pe_bl)) pss_nil)
  (pss_cons (ps_set (i := 3) sc_row_fits.nd rfl (Or.inl rfl) (pe_ix ix_kdict (pe_glob (v := .ref T.a_FORMS) rfl T.c_FORMS rfl) (pv 2) (fun _ _ => rfl)))
  (pss_one (ps_ret (pe_callA (S := fitS T) (fitHeld T) (hr.mono (by decide)) (i := 3) rfl (Or.inl rfl) (pa_cons (pv 0) (pa_cons (pv 1) pa_nil (star1 rfl)) (star1 rfl)) (by decide) (by decide) (star1 rfl) (starAll rfl)))))))), ?_⟩
  by_cases ht : isTupB d = true
  case neg =>
    have hb : isTupB d = false := by simpa using ht
    refine s_if (b := true) (et_is (et_or (b := false) (et_not (et_B (ev_isi (ev_var rfl) hd (kt_tuple d)))) fun h => ?_) (by rw [hb]; rfl)) (fun _ H1 e1 => ?_) (fun h => by cases h)
    · rw [hb] at h
      cases h
    · refine s_ret ev_c fun H2 e2 => ?_
      have e : rowFits d k = false := rowFits_no fun z ds h => by
        subst h
        cases hb
      have q2 := q H2 (e1.trans e2)
      rw [e] at q2
      exact q2
  cases hd with
  | tup hs ha =>
    rename_i a xs ds
    have hz2 : xs.length ≤ 40000 := by rw [dpa_len ha]; exact hz ds rfl
    have hl : EvT (tOr (tNot (tB (tCB (rIsi K) (tCons (tVar 0) (tCons (tC (.ty "tuple")) tNil))))) (tTest (tOp rEq (tCB (rLenS K) (tCons (tVar 0) tNil)) (tC (.int 0))))) (start N_row_fits [.ref a, .int k]) H (decide (V.int (xs.length : Int) = V.int 0)) :=
      et_is (et_or (et_not (et_B (ev_isi (ev_var rfl) (Dp.tup hs ha) (kt_tuple (.tuple ds))))) fun _ => et_test (ev_eq (ev_lenT (ev_var rfl) hs) ev_c rfl)) rfl
    refine s_if hl (fun h0 H1 e1 => ?_) (fun h0 H1 e1 => ?_)
    · have e0 : xs.length = 0 := len_is (m := 0) h0
      refine s_ret ev_c fun H2 e2 => ?_
      have e : rowFits (.tuple ds) k = false := rowFits_no fun z es h => by
        cases h
        have := dpa_len ha
        rw [e0] at this
        cases this
      have q2 := q H2 (e1.trans e2)
      rw [e] at q2
      exact q2
    · cases ha with
      | nil => exact absurd h0 (by decide)
      | cons hx hr' =>
        rename_i x xs' d ds'
        refine s_asg (v := x) (ev_ixT (v := x) (ev_var rfl) ev_c (ex_t e1 hs) ?_) fun H2 e2 => ?_
        · simp [atI, ixN]
        have hx2 := dp_mono (e1.trans e2) hx
        by_cases hst : isStrB d = true
        case neg =>
          have hb : isStrB d = false := by simpa using hst
          refine s_if (b := true) (et_is (et_or (b := false) (et_not (et_B (ev_isi (ev_var rfl) hx2 (kt_str d)))) fun h => ?_) (by rw [hb]; rfl)) (fun _ H3 e3 => ?_) (fun h => by cases h)
          · rw [hb] at h
            cases h
          · refine s_ret ev_c fun H4 e4 => ?_
            have e : rowFits (.tuple (d :: ds')) k = false := rowFits_no fun z es h => by
              cases h
              cases hb
            have q2 := q H4 (((e1.trans e2).trans e3).trans e4)
            rw [e] at q2
            exact q2
        cases hx with
        | str z =>
          refine s_if (et_is (et_or (et_not (et_B (ev_isi (ev_var rfl) hx2 (kt_str (.str z))))) fun _ => et_test (ev_op (ev_var rfl) ev_c (rv_notInK T.D_FORMS))) (Bool.false_or _)) (fun h1 H3 e3 => ?_) (fun h1 H3 e3 => ?_)
          · refine s_ret ev_c fun H4 e4 => ?_
            have e : rowFits (.tuple (.str z :: ds')) k = false := by
              unfold rowFits
              simp only at h1 ⊢
              split at h1
              · cases h1
              · rename_i n1
                rw [if_neg n1]
                split at h1
                · cases h1
                · rename_i n2
                  rw [if_neg n2]
                  split at h1
                  · cases h1
                  · rename_i n3
                    rw [if_neg n3]
                    split at h1
                    · cases h1
                    · rename_i n4
                      rw [if_neg n4]
                      split at h1
                      · cases h1
                      · rename_i n5
                        rw [if_neg n5]
                        split at h1
                        · cases h1
                        · rename_i n6
                          rw [if_neg n6]
            have q2 := q H4 (((e1.trans e2).trans e3).trans e4)
            rw [e] at q2
            exact q2
          · have hs3 := ex_t ((e1.trans e2).trans e3) hs
            have ha3 : DpAll K H3 (.str z :: xs') (.str z :: ds') := dpa_mono ((e1.trans e2).trans e3) (.cons (.str z) hr')
            have go : ∀ (f : Addr) (g : List PyData → Int → Bool), (if z = "take" then some (Value.ref T.f_take_fits) else if z = "try" then some (.ref T.f_word_fits) else if z = "let" then some (.ref T.f_word_fits) else if z = "say" then some (.ref T.f_say_fits) else if z = "goto" then some (.ref T.f_goto_fits) else if z = "if" then some (.ref T.f_if_fits) else none) = some (.ref f) →
                fitS T f = some (spFit K g) → g (.str z :: ds') k = rowFits (.tuple (.str z :: ds')) k →
                tSeq (tAsg (tOp (rIxD K w) (tC (.ref T.a_FORMS)) (tVar 2)) (gName 3)) (tRet (tCallA 3 (fitS T) (tCons (tVar 0) (tCons (tVar 1) tNil)))) { nx := fun _ H' => Q .non H', rt := Q } ((start N_row_fits [.ref a, .int k]).set 2 (some (.str z))) H3 := by
              intro f g hf hh hg
              refine s_asg (v := .ref f) (ev_op ev_c (ev_var rfl) (rv_ixD T.D_FORMS hf)) fun H4 e4 => ?_
              refine s_ret (ev_callA (f := f) (sp := spFit K g) (z := .bl (rowFits (.tuple (.str z :: ds')) k)) rfl hh (ea_cons (ev_var rfl) (ea_cons (ev_var rfl) ea_nil)) ?_) fun H5 e5 => q H5 ((((e1.trans e2).trans e3).trans e4).trans e5)
              intro H6 e6 Q' q' E'
              rw [← hg] at q'
              exact ⟨a, _, _, k, rfl, ex_t (e4.trans e6) hs3, dpa_mono (e4.trans e6) ha3, hz2, q'⟩
            by_cases n1 : z = "take"
            · exact go _ _ (by rw [if_pos n1]) (fit_take T) (by unfold rowFits; simp only [if_pos n1])
            by_cases n2 : z = "try"
            · exact go _ _ (by rw [if_neg n1, if_pos n2]) (fit_word T) (by unfold rowFits; simp only [if_neg n1, if_pos n2])
            by_cases n3 : z = "let"
            · exact go _ _ (by rw [if_neg n1, if_neg n2, if_pos n3]) (fit_word T) (by unfold rowFits; simp only [if_neg n1, if_neg n2, if_pos n3])
            by_cases n4 : z = "say"
            · exact go _ _ (by rw [if_neg n1, if_neg n2, if_neg n3, if_pos n4]) (fit_say T) (by unfold rowFits; simp only [if_neg n1, if_neg n2, if_neg n3, if_pos n4])
            by_cases n5 : z = "goto"
            · exact go _ _ (by rw [if_neg n1, if_neg n2, if_neg n3, if_neg n4, if_pos n5]) (fit_goto T) (by unfold rowFits; simp only [if_neg n1, if_neg n2, if_neg n3, if_neg n4, if_pos n5])
            by_cases n6 : z = "if"
            · exact go _ _ (by rw [if_neg n1, if_neg n2, if_neg n3, if_neg n4, if_neg n5, if_pos n6]) (fit_if T) (by unfold rowFits; simp only [if_neg n1, if_neg n2, if_neg n3, if_neg n4, if_neg n5, if_pos n6])
            · simp only [if_neg n1, if_neg n2, if_neg n3, if_neg n4, if_neg n5, if_neg n6] at h1
              cases h1
        | _ => cases hst
  | _ => cases ht
theorem all_range {n : Nat} {ds : List PyData} (hl : n = ds.length) : ((List.range n).map fun i => rowFits (ds.getD i .none) ds.length).all id = progFits (.tuple ds) := by
  unfold progFits
  rw [hl, List.all_map]
  rw [Bool.eq_iff_iff, List.all_eq_true, List.all_eq_true]
  constructor
  · intro h d hd
    obtain ⟨i, hi, e⟩ := List.getElem_of_mem hd
    have := h i (List.mem_range.mpr hi)
    simp only [Function.comp, id] at this
    rw [List.getD_eq_getElem?_getD, List.getElem?_eq_getElem hi] at this
    simpa [e] using this
  · intro h i hi
    have hi := List.mem_range.mp hi
    simp only [Function.comp, id]
    rw [List.getD_eq_getElem?_getD, List.getElem?_eq_getElem hi]
    exact h _ (List.getElem_mem hi)
theorem ok_is_program (T : Tp w K mg) : FnOk P w K mg base CX0 6 T.f_is_program T.d_is_program ["thing"] (spProg K) := by
  refine T.F_is_program.ok sc_is_program (fun vs H Q E h => ?_) (fun cdv A outer s H vs Q E hr h => ?_)
  · obtain ⟨v, d, rfl, _⟩ := h
    rfl
  obtain ⟨v, d, rfl, hd, hz, q⟩ := h
  refine ⟨_, (pss_cons (ps_if (pt_not (pt_val (pe_callB (isiK (K := K) rfl) rfl T.z_isinstance (by decide +kernel) (pa_cons (pv 0) (pa_cons (pe_bltn (v := .ty "tuple") rfl T.z_tuple (by decide +kernel) rfl) pa_nil (star1 rfl)) (star1 rfl)) (by decide) (by decide) (star1 rfl) (starAll rfl)))) (pss_one (ps_ret pe_bl)) pss_nil)
  (pss_one (ps_ret (pe_callB (allK (K := K) rfl rfl) rfl T.z_all (by decide +kernel) (pa_cons (pe_lc (own := [("row", 1)]) (g := gName 1) (tt := tYes) rfl sc_is_program.nd (pi_tup (pv 0)) (blkOk_by (N := N_is_program) (sc := defScope s_is_program) (by decide +kernel)) (fun _ _ _ _ _ => (pg_name (i := 1) sc_is_program.nd rfl (Or.inl rfl))) (fun _ _ _ _ _ => pts_nil) (fun _ _ _ _ _ => (pe_call (ok_row_fits T) (hr.mono (by decide)) rfl T.m_row_fits T.F_row_fits.kp (b_row_fits T) .nil pass0 (pa_cons (pv 1) (pa_cons (pe_callB (lenK (K := K) rfl) rfl T.z_len PySem.boot_len (pa_cons (pv 0) pa_nil (star1 rfl)) (by decide) (by decide) (star1 rfl) (starAll rfl)) pa_nil (star1 rfl)) (star1 rfl)) (by decide) (star1 rfl) (starAll rfl)))) pa_nil (star1 rfl)) (by decide) (by decide) (star1 rfl) (starAll rfl))))), ?_⟩
  refine s_if (et_not (et_B (ev_isi (ev_var rfl) hd (kt_tuple d)))) (fun hb H1 e1 => ?_) (fun hb H1 e1 => ?_)
  · refine s_ret ev_c fun H2 e2 => ?_
    have e : progFits d = false := by
      cases d <;> first | rfl | cases hb
    have q2 := q H2 (e1.trans e2)
    rw [e] at q2
    exact q2
  · cases hd with
    | tup hs ha =>
      rename_i a xs ds
      have hl := dpa_len ha
      have hz1 : ds.length ≤ 40000 := hz.1
      refine s_next ?_
      dsimp only
      refine s_ret (ev_is (ev_allN (bs := (List.range xs.length).map fun i => rowFits (ds.getD i .none) ds.length) ?_) (w := .bl (progFits (.tuple ds))) ?_) ?_
      rotate_left 2
      · exact fun H2 e2 => q H2 (e1.trans e2)
      · have c := el_lcT (K := K) (σ := start N_is_program [.ref a]) (H := H1) (tl := tVar 0) (tt := tYes) (te := tCall (spRowFits K) [] E0 (tCons (tVar 1) (tCons (tCB (rLenS K) (tCons (tVar 0) tNil)) tNil))) (j := 1) (vs := [1]) (fun _ => true) (fun i => .bl (rowFits (ds.getD i .none) ds.length))
          (ev_var rfl) (ex_t e1 hs) (by omega) (fun x => rfl) (fun i x H2 e2 hi => et_yes) (fun i x H2 e2 hi _ => ?_)
        · rw [given_all] at c
          rw [List.map_map]
          exact c
        · obtain ⟨d, h1, h2⟩ := dpa_get ha hi
          have e : ds.getD i .none = d := by rw [List.getD_eq_getElem?_getD, h1]; rfl
          rw [e]
          refine ev_call (vs := [x, .int xs.length]) (ea_cons (ev_var rfl) (ea_cons (ev_lenT (ev_var rfl) (ex_t (e1.trans e2) hs)) ea_nil)) fun H3 e3 Q' q' E' => ⟨x, d, (xs.length : Int), rfl, dp_mono ((e1.trans e2).trans e3) h2, ?_, ?_⟩
          · intro es hes
            exact hz.2 d (List.mem_of_getElem? h1) es hes
          · rw [hl]
            exact q'
      · exact congrArg V.bl (all_range hl)
    | _ => cases hb
end

/-! ### the law's own drawing -/
def spHand (K : PySem.W.Frag) : Sp := fun vs H Q _ => ∃ (a : Addr) (ns : List Int), vs = [.ref a] ∧ SqL K H a (ns.map V.int) ∧ ns.length ≤ 63 ∧ ∀ h l H', Ex H H' → H h = none → H l = none → Hand H' h l → Q (.ref h) H'
def spPick : Sp := fun vs H Q _ => ∃ (h l : Addr) (m : Int), vs = [.ref h, .int m] ∧ Hand H h l ∧ 1 ≤ m ∧ m ≤ 1000000 ∧ ∀ r H', 0 ≤ r → r < m → Hand H' h l → Kp h l H H' → Q (.int r) H'
def spOf : Sp := fun vs H Q _ => ∃ (h l a : Addr) (xs : List V), vs = [.ref h, .ref a] ∧ Hand H h l ∧ H a = some (.lst xs) ∧ a ≠ h ∧ a ≠ l ∧ 1 ≤ xs.length ∧ xs.length ≤ 1000 ∧ ∀ v H', v ∈ xs → Hand H' h l → Kp h l H H' → Q v H'
section
variable {P : Program} {w : World} {K : PySem.W.Frag} {mg : Str → Option Value} {base : Heap}
theorem ok__law_hand (T : Tp w K mg) : FnOk P w K mg base CX0 1 T.f__law_hand T.d__law_hand ["_law_script"] (spHand K) := by
  refine T.F__law_hand.ok sc__law_hand (fun vs H Q E h => ?_) (fun cdv A outer s H vs Q E hr h => ?_)
  · obtain ⟨a, ns, rfl, _⟩ := h
    rfl
  obtain ⟨a, ns, rfl, hs, h63, q⟩ := h
  refine ⟨_, (pss_cons (ps_set (i := 1) sc__law_hand.nd rfl (Or.inl rfl) pe_int)
  (pss_cons (ps_for PassesOwn.never rfl (pi_list (pe_slice sl_list (pv 0) po_none (po_some pe_int))) (pg_name (i := 2) sc__law_hand.nd rfl (Or.inl rfl)) (pss_one (ps_set (i := 1) sc__law_hand.nd rfl (Or.inl rfl) (pe_op op_mod (pe_op op_add (pe_op op_add (pe_op op_mul (pv 1) pe_int) (pe_op op_mod (pv 2) pe_int)) pe_int) pe_int))))
  (pss_one (ps_ret (pe_lst (pa_cons (pe_lc (own := [("_law_cell", 2)]) (g := gName 2) rfl sc__law_hand.nd (pi_list (pe_slice sl_list (pv 0) po_none (po_some pe_int))) (blkOk_by (N := N__law_hand) (sc := defScope s__law_hand) (by decide +kernel)) (fun _ _ _ _ _ => (pg_name (i := 2) sc__law_hand.nd rfl (Or.inl rfl))) (fun _ _ _ _ _ => (pts_one (pt_cmpR op_ge (pv 2) (pe_op op_pow pe_int pe_int) (nomark _)))) (fun _ _ _ _ _ => (pv 2))) (pa_cons (pv 1) pa_nil (star1 rfl)) (star1 rfl))))))), ?_⟩
  obtain ⟨ms, hms, hlen⟩ := cut_ints ns 63
  refine q_asg (v := .int 23) ev_c fun H1 e1 => ?_
  refine q_forNLn (xs := ms.map V.int) (by rw [← hms]; exact el_cut (ev_var rfl) (ex_l e1 hs)) (fun p i σ' H' => Ex H1 H' ∧ H' p = some (.lst (ms.map V.int)) ∧ ∃ sd c, σ' = [some (.ref a), some (.int sd), c] ∧ 0 ≤ sd ∧ sd < 2305843009213693951) ?_ ?_ ?_ ?_
  · intro p H2 hp e2 h2
    exact ⟨e2, h2, 23, none, rfl, by decide, by decide⟩
  · intro p i σ' H' _ hv
    exact sq_of hv.2.1
  · intro p i x σ' H' hx hv
    obtain ⟨e2, hp, sd, c, rfl, h0, h1⟩ := hv
    obtain ⟨n, rfl⟩ : ∃ n, x = .int n := by
      rw [List.getElem?_map] at hx
      cases h : ms[i]? with
      | none => rw [h] at hx; cases hx
      | some n => rw [h] at hx; exact ⟨n, by cases hx; rfl⟩
    refine s_asg (v := .int ((sd * 6364136223846793 + n % 2305843009213693951 + 31) % 2305843009213693951)) (ev_I (by decide) (ev_I0 (ev_I0 (ev_I (Or.inl ⟨by omega, by omega⟩) (ev_var rfl) ev_c) (ev_I (by decide) (ev_var rfl) ev_c)) ev_c) ev_c) fun H3 e3 => ?_
    refine ⟨e2.trans e3, e3 _ _ hp, _, _, rfl, ?_, ?_⟩
    · exact Int.emod_nonneg _ (by decide)
    · exact Int.emod_lt_of_pos _ (by decide)
  · intro p σ' H' hv
    obtain ⟨e2, hp, sd, c, rfl, h0, h1⟩ := hv
    have c := el_lcNL (K := K) (σ := [some (.ref a), some (.int sd), c]) (H := H') (xs := ms.map V.int) (tl := tSl (rSlL K) (tVar 0) tNoPart (tPart (tC (.int 63)))) (t := tTest (tOp (rI0 fun i j => .bl (decide (j ≤ i))) (tVar 2) (tOp (rI CPow fun i j => .int (i ^ j.toNat)) (tC (.int 10)) (tC (.int 18))))) (te := tVar 2) (j := 2) (vs := [2])
      (fun i => decide ((10 : Int) ^ 18 ≤ ms.getD i 0)) (fun i => .int (ms.getD i 0)) (by rw [← hms]; exact el_cut (ev_var rfl) (ex_l (e1.trans e2) hs)) (by rw [List.length_map]; omega) (fun x => rfl) (fun i x H2 e2 hi => ?_) (fun i x H2 e2 hi _ => ?_)
    · obtain ⟨cs, hcs, hcl, hcp⟩ : ∃ cs : List Int, given (ms.map V.int).length (fun i => decide ((10 : Int) ^ 18 ≤ ms.getD i 0)) (fun i => V.int (ms.getD i 0)) = cs.map V.int ∧ cs.length ≤ ms.length ∧ ∀ c ∈ cs, 0 ≤ c := by
        refine ⟨((List.range (ms.map V.int).length).filter fun i => decide ((10 : Int) ^ 18 ≤ ms.getD i 0)).map fun i => ms.getD i 0, ?_, ?_, ?_⟩
        · unfold given
          rw [List.map_map]
          rfl
        · rw [List.length_map]
          exact Nat.le_trans (List.length_filter_le _ _) (by rw [List.length_range, List.length_map]; exact Nat.le_refl _)
        · intro c hc
          obtain ⟨i, hi, rfl⟩ := List.mem_map.mp hc
          have := of_decide_eq_true (List.mem_filter.mp hi).2
          omega
      rw [hcs] at c
      unfold tRet tLst tCons
      refine c H' (Ex.refl H') _ fun l H2 hl e3 hl2 => ?_
      refine ⟨.int sd, rfl, (by show 2 ≤ sizeLine; decide), fun h hh => ?_⟩
      have hx : Ex H H2 := (e1.trans e2).trans e3
      exact q h l _ (hx.trans (Ex.new hh)) (fresh_back hx hh) (fresh_back (e1.trans e2) hl) ⟨cs, sd, upd_same, by rw [upd_ne (ne_of_none hl2 hh)]; exact hl2, h0, h1, by omega, hcp⟩
    · obtain ⟨n, hn, rfl⟩ : ∃ n, ms[i]? = some n ∧ x = .int n := by
        rw [List.getElem?_map] at hi
        cases h : ms[i]? with
        | none => rw [h] at hi; cases hi
        | some n => rw [h] at hi; exact ⟨n, rfl, by cases hi; rfl⟩
      have e : ms.getD i 0 = n := by rw [List.getD_eq_getElem?_getD, hn]; rfl
      rw [e]
      exact et_test (ev_I0 (ev_var rfl) (ev_is (ev_I (C := CPow) ⟨by decide, by decide, by decide⟩ ev_c ev_c) rfl))
    · obtain ⟨n, hn, rfl⟩ : ∃ n, ms[i]? = some n ∧ x = .int n := by
        rw [List.getElem?_map] at hi
        cases h : ms[i]? with
        | none => rw [h] at hi; cases hi
        | some n => rw [h] at hi; exact ⟨n, rfl, by cases hi; rfl⟩
      have e : ms.getD i 0 = n := by rw [List.getD_eq_getElem?_getD, hn]; rfl
      rw [e]
      exact ev_var rfl
theorem ok__law_pick (T : Tp w K mg) : FnOk P w K mg base CX0 1 T.f__law_pick T.d__law_pick ["_law_hand_here", "_law_many"] spPick := by
  refine T.F__law_pick.ok sc__law_pick (fun vs H Q E h => ?_) (fun cdv A outer s H vs Q E hr h => ?_)
  · obtain ⟨h, l, m, rfl, _⟩ := h
    rfl
  obtain ⟨h, l, m, rfl, ⟨cs, sd, A0⟩, m1, m2, q⟩ := h
  refine ⟨_, (pss_cons (ps_while PassesOwn.never (PW.pt (pw_and (pt_cmpR (neDK (K := K) rfl hr.units) (pe_ix ix_list (pv 0) pe_int (fun _ _ => rfl)) (pe_lst pa_nil) (nomark _)) (pw_and1 (pt_cmpR op_eq (pe_ix ix_list (pe_ix ix_list (pv 0) pe_int (fun _ _ => rfl)) pe_int (fun _ _ => rfl)) pe_int (nomark _))))) (pss_one (ps_expr (pe_bm PySem.F.plainAttrs_list PySem.F.slot_list_pop PySem.F.type_list_pop mt_popAt (pe_ix ix_list (pv 0) pe_int (fun _ _ => rfl)) (pa_cons pe_int pa_nil (star1 rfl))))))
  (pss_cons (ps_if (pt_cmpR (neDK (K := K) rfl hr.units) (pe_ix ix_list (pv 0) pe_int (fun _ _ => rfl)) (pe_lst pa_nil) (nomark _)) (pss_cons (ps_set (i := 3) sc__law_pick.nd rfl (Or.inl rfl) (pe_op op_mod (pe_ix ix_list (pe_ix ix_list (pv 0) pe_int (fun _ _ => rfl)) pe_int (fun _ _ => rfl)) (pv 1)))
  (pss_cons (ps_asg (pe_op op_fdiv (pe_ix ix_list (pe_ix ix_list (pv 0) pe_int (fun _ _ => rfl)) pe_int (fun _ _ => rfl)) (pv 1)) (pg_sub (pe_ix ix_list (pv 0) pe_int (fun _ _ => rfl)) pe_int set_list))
  (pss_one (ps_ret (pv 3))))) pss_nil)
  (pss_cons (ps_asg (pe_op op_mod (pe_op op_add (pe_op op_mul (pe_ix ix_list (pv 0) pe_int (fun _ _ => rfl)) pe_int) pe_int) pe_int) (pg_sub (pv 0) pe_int set_list))
  (pss_cons (ps_set (i := 2) sc__law_pick.nd rfl (Or.inl rfl) (pe_op op_fdiv (pe_ix ix_list (pv 0) pe_int (fun _ _ => rfl)) pe_int))
  (pss_one (ps_ret (pe_op op_mod (pe_op op_fdiv (pe_op op_mod (pe_op op_mul (pv 2) (pe_op op_add (pe_op op_mod (pv 2) pe_int) pe_int)) pe_int) pe_int) (pv 1)))))))), ?_⟩
  have at0 : ∀ (σ' : L2.St) {H' : Hp} {cs : List Int} {sd : Int}, σ'[0]? = some (some (.ref h)) → HandAt H' h l cs sd → Ev (tOp (rIxL K) (tVar 0) (tC (.int 0))) σ' H' (.ref l) := fun σ' H' cs sd e A => ev_op (ev_var e) ev_c (rv_ixL (sq_of A.hh) rfl)
  refine q_while (fun n σ' H' => σ' = start N__law_pick [.ref h, .int m] ∧ Kp h l H H' ∧ ∃ cs sd, n = cs.length ∧ HandAt H' h l cs sd) cs.length ⟨rfl, Kp.refl h l H, cs, sd, rfl, A0⟩ ?_
  intro n σ' H' hw
  obtain ⟨rfl, kp, cs, sd, rfl, A⟩ := hw
  refine ⟨!cs.isEmpty && decide (cs.head? = some 0), et_and (et_test (ev_neNil (at0 _ rfl A) A.hl)) fun hne => ?_, fun hb H1 e1 => ?_, fun hb H1 e1 => ?_⟩
  · cases cs with
    | nil => cases hne
    | cons c r =>
      refine et_is (et_test (ev_eq (ev_op (at0 _ rfl A) ev_c (rv_ixL (v := .int c) (sq_of A.hl) (by simp [atI, ixN]))) ev_c rfl)) ?_
      simp
  · cases cs with
    | nil => cases hb
    | cons c r =>
      have A1 := A.ex e1
      refine ⟨fun σ2 H2 => σ2 = start N__law_pick [.ref h, .int m] ∧ Kp h l H H2 ∧ HandAt H2 h l r sd, fun σ2 H2 hn => ?_, ?_⟩
      · exact ⟨r.length, by simp, hn.1, hn.2.1, r, sd, rfl, hn.2.2⟩
      · refine at0 _ rfl A1 H1 (Ex.refl H1) _ fun H2 e2 => ⟨Or.inl ⟨rfl, _, sq_of (e2 _ _ A1.hl)⟩, l, (c :: r).map V.int, 0, 0, .int c, rfl, rfl, e2 _ _ A1.hl, by decide, by decide, ?_, rfl, rfl, ?_, ?_⟩
        · simp [seqIndex?]
        · exact Kp.put (kp.trans (Kp.ex (e1.trans e2))) (Or.inr rfl)
        · have A2 := A1.ex e2
          exact ⟨by rw [upd_ne A2.ne]; exact A2.hh, by rw [upd_same]; simp, A2.lo, A2.hi, by have := A2.few; simp at this; omega, fun c' hc => A2.pos c' (List.mem_cons_of_mem _ hc)⟩
  · have A1 := A.ex e1
    have k1 : Kp h l H H1 := kp.trans (Kp.ex e1)
    refine q_when (et_test (ev_neNil (at0 _ rfl A1) A1.hl)) (fun hne H2 e2 => ?_) (fun hne H2 e2 => ?_)
    · have A2 := A1.ex e2
      cases cs with
      | nil => cases hne
      | cons c r =>
        refine q_asg (v := .int (c % m)) (ev_I (by show (0 : Int) < m; omega) (ev_op (at0 _ rfl A2) ev_c (rv_ixL (v := .int c) (sq_of A2.hl) (by simp [atI, ixN]))) (ev_var rfl)) fun H3 e3 => ?_
        have A3 := A2.ex e3
        refine q_setL (j := 0) (v := .int (c / m)) A3.hl (ev_I (C := CDiv) ⟨by omega, by omega⟩ (ev_op (at0 _ rfl A3) ev_c (rv_ixL (v := .int c) (sq_of A3.hl) (by simp [atI, ixN]))) (ev_var rfl)) (at0 _ rfl A3) ev_c (by simp) fun H4 e4 => ?_
        have A4 := A3.ex e4
        refine s_ret (v := .int (c % m)) (ev_var rfl) fun H5 e5 => ?_
        have hc : 0 ≤ c := A4.pos c (List.mem_cons_self ..)
        have B : HandAt (upd H4 l (.lst (((c :: r).map V.int).set 0 (.int (c / m))))) h l (c / m :: r) sd := ⟨by rw [upd_ne A4.ne]; exact A4.hh, by rw [upd_same]; simp, A4.lo, A4.hi, by have := A4.few; simpa using this, fun c' hc' => by
          rcases List.mem_cons.mp hc' with rfl | h'
          · exact Int.ediv_nonneg hc (by omega)
          · exact A4.pos c' (List.mem_cons_of_mem _ h')⟩
        exact q _ H5 (Int.emod_nonneg _ (by omega)) (Int.emod_lt_of_pos _ (by omega)) ⟨_, _, B.ex e5⟩ ((Kp.put (k1.trans (Kp.ex ((e2.trans e3).trans e4))) (Or.inr rfl)).trans (Kp.ex e5))
    · have A2 := A1.ex e2
      have ev1 : ∀ (σ' : L2.St) {H' : Hp} {cs : List Int} {sd : Int}, σ'[0]? = some (some (.ref h)) → HandAt H' h l cs sd → Ev (tOp (rIxL K) (tVar 0) (tC (.int 1))) σ' H' (.int sd) := fun σ' H' cs sd e A => ev_op (ev_var e) ev_c (rv_ixL (sq_of A.hh) rfl)
      have hlo := A2.lo
      have hhi := A2.hi
      refine q_setL (j := 1) (v := .int ((sd * 3935559000370003 + 2691343689449507) % 2305843009213693951)) A2.hh (ev_I (by decide) (ev_I0 (ev_I (Or.inl ⟨by omega, by omega⟩) (ev1 _ rfl A2) ev_c) ev_c) ev_c) (ev_var rfl) ev_c (by simp) fun H3 e3 => ?_
      have A3 := A2.ex e3
      generalize hs : (sd * 3935559000370003 + 2691343689449507) % 2305843009213693951 = s2
      have s0 : 0 ≤ s2 := by rw [← hs]; exact Int.emod_nonneg _ (by decide)
      have s1 : s2 < 2305843009213693951 := by rw [← hs]; exact Int.emod_lt_of_pos _ (by decide)
      have B : HandAt (upd H3 h (.lst ([V.ref l, .int sd].set 1 (.int s2)))) h l cs s2 := ⟨upd_same, by rw [upd_ne (Ne.symm A3.ne)]; exact A3.hl, s0, s1, A3.few, A3.pos⟩
      refine q_asg (v := .int (s2 / 65537)) (ev_I (C := CDiv) (by constructor <;> decide) (ev1 _ rfl B) ev_c) fun H4 e4 => ?_
      have b1 : s2 / 65537 < 2 ^ 64 := by omega
      have b0 : 0 ≤ s2 / 65537 := by omega
      refine s_ret (ev_I (by show (0 : Int) < m; omega) (ev_I (C := CDiv) (by constructor <;> decide) (ev_I (by decide) (ev_I (C := CMul) (Or.inl ⟨by omega, by omega⟩) (ev_var rfl) (ev_I0 (ev_I (by decide) (ev_var rfl) ev_c) ev_c)) ev_c) ev_c) (ev_var rfl)) fun H5 e5 => ?_
      exact q _ H5 (Int.emod_nonneg _ (by omega)) (Int.emod_lt_of_pos _ (by omega)) ⟨_, _, B.ex (e4.trans e5)⟩ ((Kp.put (k1.trans (Kp.ex (e2.trans e3))) (Or.inl rfl)).trans (Kp.ex (e4.trans e5)))
theorem ok__law_of (T : Tp w K mg) : FnOk P w K mg base CX0 2 T.f__law_of T.d__law_of ["_law_hand_here", "_law_some"] spOf := by
  refine T.F__law_of.ok sc__law_of (fun vs H Q E h => ?_) (fun cdv A outer s H vs Q E hr h => ?_)
  · obtain ⟨h, l, a, xs, rfl, _⟩ := h
    rfl
  obtain ⟨h, l, a, xs, rfl, A0, ha, n1, n2, l1, l2, q⟩ := h
  refine ⟨_, (pss_one (ps_ret (pe_ix ix_list (pv 1) (pe_call (ok__law_pick T) (hr.mono (by decide)) rfl T.m__law_pick T.F__law_pick.kp (b__law_pick T) .nil pass0 (pa_cons (pv 0) (pa_cons (pe_callB (lenK (K := K) rfl) rfl T.z_len PySem.boot_len (pa_cons (pv 1) pa_nil (star1 rfl)) (by decide) (by decide) (star1 rfl) (starAll rfl)) pa_nil (star1 rfl)) (star1 rfl)) (by decide) (star1 rfl) (starAll rfl)) (fun _ _ => rfl)))), ?_⟩
  refine ⟨_, rfl, _, rfl, _, rfl, a, xs, rfl, Or.inl (sq_of ha), h, l, (xs.length : Int), rfl, A0, by omega, by omega, fun r H' r0 r1 A1 k1 => ?_⟩
  have hi : r.toNat < xs.length := by omega
  refine ⟨a, xs, r, xs[r.toNat], rfl, rfl, sq_of (k1 a _ n1 n2 ha), ?_, q _ H' (List.getElem_mem hi) A1 k1⟩
  unfold atI ixN
  rw [if_pos r0, if_pos r1]
  simp [hi]
end

/-! ### rows that are drawn: flat ones, that fit -/
def flat0 : PyData → Bool
  | .none => true
  | .bool _ => true
  | .str x => PyData.strOk x
  | .int i => decide (-1000000000000 ≤ i) && decide (i < 1000000000000)
  | _ => false
def mkV : PyData → V
  | .bool b => .bl b
  | .str x => .str x
  | .int i => .int i
  | _ => .non
theorem dp_flat {K : PySem.W.Frag} {H : Hp} {d : PyData} (h : flat0 d = true) : Dp K H (mkV d) d := by
  cases d with
  | none => exact .non
  | bool b => exact .bl b
  | str x => exact .str x
  | int i => exact .int i
  | list _ => cases h
  | tuple _ => cases h
  | dict _ => cases h
theorem dpa_flat {K : PySem.W.Frag} {H : Hp} : ∀ {ds : List PyData}, ds.all flat0 = true → DpAll K H (ds.map mkV) ds
  | [], _ => .nil
  | d :: ds, h => by
    rw [List.all_cons, Bool.and_eq_true] at h
    exact .cons (dp_flat h.1) (dpa_flat h.2)
def Drawn (H : Hp) (v : V) (k : Int) : Prop := ∃ a ds, v = .ref a ∧ H a = some (.tup (ds.map mkV)) ∧ ds.all flat0 = true ∧ rowFits (.tuple ds) k = true ∧ ds.length ≤ 3
theorem Drawn.kp {H H' : Hp} {h l : Addr} {v : V} {k : Int} (A : Hand H h l) (kp : Kp h l H H') (d : Drawn H v k) : Drawn H' v k := by
  obtain ⟨a, ds, rfl, ha, r⟩ := d
  exact ⟨a, ds, rfl, kp_tup A kp ha, r⟩
theorem Drawn.upd {H : Hp} {p : Addr} {o : HO} {v : V} {k : Int} (d : Drawn H v k) (hp : ∀ xs, H p ≠ some (.tup xs)) : Drawn (upd H p o) v k := by
  obtain ⟨a, ds, rfl, ha, r⟩ := d
  refine ⟨a, ds, rfl, ?_, r⟩
  rw [upd_ne (fun e => by subst e; exact hp _ ha)]
  exact ha
theorem rf_take (ds : List PyData) (k : Int) : rowFits (.tuple (.str "take" :: ds)) k = takeFits (.str "take" :: ds) := by
  unfold rowFits
  simp only [if_pos]
theorem rf_try (ds : List PyData) (k : Int) : rowFits (.tuple (.str "try" :: ds)) k = wordFits (.str "try" :: ds) := by
  unfold rowFits
  simp only [if_neg (show ¬ (("try" : Str) = "take") by decide +kernel), if_pos]
theorem rf_let (ds : List PyData) (k : Int) : rowFits (.tuple (.str "let" :: ds)) k = wordFits (.str "let" :: ds) := by
  unfold rowFits
  simp only [if_neg (show ¬ (("let" : Str) = "take") by decide +kernel), if_neg (show ¬ (("let" : Str) = "try") by decide +kernel), if_pos]
theorem rf_say (ds : List PyData) (k : Int) : rowFits (.tuple (.str "say" :: ds)) k = sayFits (.str "say" :: ds) := by
  unfold rowFits
  simp only [if_neg (show ¬ (("say" : Str) = "take") by decide +kernel), if_neg (show ¬ (("say" : Str) = "try") by decide +kernel), if_neg (show ¬ (("say" : Str) = "let") by decide +kernel), if_pos]
theorem rf_goto (ds : List PyData) (k : Int) : rowFits (.tuple (.str "goto" :: ds)) k = gotoFits (.str "goto" :: ds) k := by
  unfold rowFits
  simp only [if_neg (show ¬ (("goto" : Str) = "take") by decide +kernel), if_neg (show ¬ (("goto" : Str) = "try") by decide +kernel), if_neg (show ¬ (("goto" : Str) = "let") by decide +kernel), if_neg (show ¬ (("goto" : Str) = "say") by decide +kernel), if_pos]
theorem rf_if (ds : List PyData) (k : Int) : rowFits (.tuple (.str "if" :: ds)) k = ifFits (.str "if" :: ds) k := by
  unfold rowFits
  simp only [if_neg (show ¬ (("if" : Str) = "take") by decide +kernel), if_neg (show ¬ (("if" : Str) = "try") by decide +kernel), if_neg (show ¬ (("if" : Str) = "let") by decide +kernel), if_neg (show ¬ (("if" : Str) = "say") by decide +kernel), if_neg (show ¬ (("if" : Str) = "goto") by decide +kernel), if_pos]

theorem lt1000 {n : Nat} (h : n ≤ 100) : n ≤ 1000 := by omega
theorem tYesP {σ : L2.St} {H : Hp} {A B : Hp → Prop} (h : A H) : tYes σ H fun b H3 => if b = true then A H3 else B H3 := by
  show if true = true then A H else B H
  rw [if_pos rfl]
  exact h
def spRow : Sp := fun vs H Q _ => ∃ (h l : Addr) (k : Int), vs = [.ref h, .int k] ∧ Hand H h l ∧ 1 ≤ k ∧ k ≤ 1000 ∧ ∀ v H', Drawn H' v k → Hand H' h l → Kp h l H H' → Q v H'
def spProgram : Sp := fun vs H Q _ => ∃ (h l : Addr) (k : Int), vs = [.ref h, .int k] ∧ Hand H h l ∧ 0 ≤ k ∧ k ≤ 100 ∧ ∀ a xs H', H' a = some (.tup xs) → (xs.length : Int) ≤ k → (∀ v ∈ xs, Drawn H' v xs.length) → Hand H' h l → Kp h l H H' → Q (.ref a) H'
section
variable {P : Program} {w : World} {K : PySem.W.Frag} {mg : Str → Option Value} {base : Heap}
theorem ok__law_row (T : Tp w K mg) : FnOk P w K mg base CX0 3 T.f__law_row T.d__law_row ["_law_hand_here", "_law_size"] spRow := by
  refine T.F__law_row.ok sc__law_row (fun vs H Q E h => ?_) (fun cdv A outer s H vs Q E hr h => ?_)
  · obtain ⟨h, l, k, rfl, _⟩ := h
    rfl
  obtain ⟨h, l, k, rfl, A0, k0, k1, q⟩ := h
  refine ⟨_, (pss_cons (ps_set (i := 2) sc__law_row.nd rfl (Or.inl rfl) (pe_call (ok__law_of T) (hr.mono (by decide)) rfl T.m__law_of T.F__law_of.kp (b__law_of T) .nil pass0 (pa_cons (pv 0) (pa_cons (pe_lst (pa_cons pe_str (pa_cons pe_str (pa_cons pe_str (pa_cons pe_str (pa_cons pe_str (pa_cons pe_str (pa_cons pe_str pa_nil (star1 rfl)) (star1 rfl)) (star1 rfl)) (star1 rfl)) (star1 rfl)) (star1 rfl)) (star1 rfl))) pa_nil (star1 rfl)) (star1 rfl)) (by decide) (star1 rfl) (starAll rfl)))
  (pss_cons (ps_if (pt_cmpR op_eq (pv 2) pe_str (nomark _)) (pss_one (ps_ret (pe_tup (pa_cons (pv 2) (pa_cons (pe_call (ok__law_of T) (hr.mono (by decide)) rfl T.m__law_of T.F__law_of.kp (b__law_of T) .nil pass0 (pa_cons (pv 0) (pa_cons (pe_lst (pa_cons pe_non (pa_cons pe_int (pa_cons pe_int (pa_cons pe_int (pa_cons (pe_call (ok__law_pick T) (hr.mono (by decide)) rfl T.m__law_pick T.F__law_pick.kp (b__law_pick T) .nil pass0 (pa_cons (pv 0) (pa_cons pe_int pa_nil (star1 rfl)) (star1 rfl)) (by decide) (star1 rfl) (starAll rfl)) (pa_cons pe_int pa_nil (star1 rfl)) (star1 rfl)) (star1 rfl)) (star1 rfl)) (star1 rfl)) (star1 rfl))) pa_nil (star1 rfl)) (star1 rfl)) (by decide) (star1 rfl) (starAll rfl)) pa_nil (star1 rfl)) (star1 rfl))))) pss_nil)
  (pss_cons (ps_if (pt_cmpR op_eq (pv 2) pe_str (nomark _)) (pss_one (ps_ret (pe_tup (pa_cons (pv 2) (pa_cons (pe_call (ok__law_of T) (hr.mono (by decide)) rfl T.m__law_of T.F__law_of.kp (b__law_of T) .nil pass0 (pa_cons (pv 0) (pa_cons (pe_lst (pa_cons pe_int (pa_cons pe_int (pa_cons (pe_call (ok__law_pick T) (hr.mono (by decide)) rfl T.m__law_pick T.F__law_pick.kp (b__law_pick T) .nil pass0 (pa_cons (pv 0) (pa_cons pe_int pa_nil (star1 rfl)) (star1 rfl)) (by decide) (star1 rfl) (starAll rfl)) pa_nil (star1 rfl)) (star1 rfl)) (star1 rfl))) pa_nil (star1 rfl)) (star1 rfl)) (by decide) (star1 rfl) (starAll rfl)) pa_nil (star1 rfl)) (star1 rfl))))) pss_nil)
  (pss_cons (ps_if (pt_cmpR op_eq (pv 2) pe_str (nomark _)) (pss_one (ps_ret (pe_tup (pa_cons (pv 2) (pa_cons (pe_call (ok__law_pick T) (hr.mono (by decide)) rfl T.m__law_pick T.F__law_pick.kp (b__law_pick T) .nil pass0 (pa_cons (pv 0) (pa_cons (pv 1) pa_nil (star1 rfl)) (star1 rfl)) (by decide) (star1 rfl) (starAll rfl)) pa_nil (star1 rfl)) (star1 rfl))))) pss_nil)
  (pss_cons (ps_if (pt_cmpR op_eq (pv 2) pe_str (nomark _)) (pss_one (ps_ret (pe_tup (pa_cons (pv 2) (pa_cons (pe_call (ok__law_of T) (hr.mono (by decide)) rfl T.m__law_of T.F__law_of.kp (b__law_of T) .nil pass0 (pa_cons (pv 0) (pa_cons (pe_lst (pa_cons pe_int (pa_cons pe_int (pa_cons (pe_un un_neg pe_int) (pa_cons pe_int (pa_cons (pe_un un_neg pe_int) (pa_cons pe_int pa_nil (star1 rfl)) (star1 rfl)) (star1 rfl)) (star1 rfl)) (star1 rfl)) (star1 rfl))) pa_nil (star1 rfl)) (star1 rfl)) (by decide) (star1 rfl) (starAll rfl)) (pa_cons (pe_call (ok__law_pick T) (hr.mono (by decide)) rfl T.m__law_pick T.F__law_pick.kp (b__law_pick T) .nil pass0 (pa_cons (pv 0) (pa_cons (pv 1) pa_nil (star1 rfl)) (star1 rfl)) (by decide) (star1 rfl) (starAll rfl)) pa_nil (star1 rfl)) (star1 rfl)) (star1 rfl))))) pss_nil)
  (pss_one (ps_ret (pe_tup (pa_cons (pv 2) pa_nil (star1 rfl)))))))))), ?_⟩
  refine q_asgP ?_
  refine ⟨_, rfl, (by show 7 ≤ sizeLine; decide), fun p hp => ?_⟩
  obtain ⟨n1, n2⟩ := A0.fresh hp
  refine ⟨h, l, p, _, rfl, A0.new hp, upd_same, n1, n2, by decide, by decide, fun v H1 hv A1 kp1 => ?_⟩
  have kp : Kp h l H H1 := (Kp.ex (Ex.new hp)).trans kp1
  have fin : ∀ (H2 : Hp) (t : Addr) (ds : List PyData), Hand H2 h l → Kp h l H H2 → H2 t = none → ds.all flat0 = true → rowFits (.tuple ds) k = true → ds.length ≤ 3 → Q (.ref t) (upd H2 t (.tup (ds.map mkV))) := fun H2 t ds A2 kp2 ht h1 h2 h3 =>
    q _ _ ⟨t, ds, rfl, upd_same, h1, h2, h3⟩ (A2.new ht) (kp2.trans (Kp.ex (Ex.new ht)))
  have hv' : v = .str "take" ∨ v = .str "try" ∨ v = .str "let" ∨ v = .str "say" ∨ v = .str "goto" ∨ v = .str "if" := by
    simp only [List.mem_cons, List.not_mem_nil, or_false] at hv
    rcases hv with h | h | h | h | h | h | h <;> simp [h]
  rcases hv' with rfl | rfl | rfl | rfl | rfl | rfl
  · refine q_when (b := true) (et_is (et_test (ev_eq (ev_var rfl) ev_c rfl)) (by decide +kernel)) (fun _ H2 e2 => ?_) (fun hb => by cases hb)
    have A2 := A1.ex e2
    refine ⟨_, rfl, _, rfl, _, rfl, h, l, 40, rfl, A2, by decide, by decide, fun r H3 r0 r1 A3 kp3 => ⟨(by show 6 ≤ sizeLine; decide), fun p2 hp2 => ?_⟩⟩
    obtain ⟨n3, n4⟩ := A3.fresh hp2
    refine ⟨h, l, p2, _, rfl, A3.new hp2, upd_same, n3, n4, Nat.le_add_left 1 _, lt1000 (by simp), fun v H4 hv A4 kp4 => ⟨(by show 2 ≤ sizeLine; decide), fun t ht => ?_⟩⟩
    have kp5 : Kp h l H H4 := ((kp.trans (Kp.ex e2)).trans kp3).trans ((Kp.ex (Ex.new hp2)).trans kp4)
    obtain ⟨d, rfl, hd, hf⟩ : ∃ d, v = mkV d ∧ flat0 d = true ∧ takeFits [.str "take", d] = true := by
      simp only [List.mem_cons, List.not_mem_nil, or_false] at hv
      rcases hv with h | h | h | h | h | h
      · exact ⟨.none, h, rfl, rfl⟩
      · exact ⟨.int 0, h, by decide, by decide⟩
      · exact ⟨.int 1, h, by decide, by decide⟩
      · exact ⟨.int 2, h, by decide, by decide⟩
      · refine ⟨.int r, h, ?_, ?_⟩
        · simp only [flat0, Bool.and_eq_true, decide_eq_true_eq]; omega
        · simp only [takeFits, wholeFrom, decide_eq_true_eq]; exact r0
      · exact ⟨.int 99999999, h, by decide, by decide⟩
    refine fin H4 t [.str "take", d] A4 kp5 ht ?_ ?_ (by simp)
    · simp only [List.all_cons, List.all_nil, hd, Bool.and_true]
      decide +kernel
    · rw [rf_take]
      exact hf
  · refine q_when (b := false) (et_is (et_test (ev_eq (ev_var rfl) ev_c rfl)) (by decide +kernel)) (fun hb => by cases hb) (fun _ H2 e2 => ?_)
    refine q_when (b := false) (et_is (et_test (ev_eq (ev_var rfl) ev_c rfl)) (by decide +kernel)) (fun hb => by cases hb) (fun _ H3 e3 => ?_)
    refine q_when (b := false) (et_is (et_test (ev_eq (ev_var rfl) ev_c rfl)) (by decide +kernel)) (fun hb => by cases hb) (fun _ H4 e4 => ?_)
    refine q_when (b := false) (et_is (et_test (ev_eq (ev_var rfl) ev_c rfl)) (by decide +kernel)) (fun hb => by cases hb) (fun _ H5 e5 => ?_)
    have e := ((e2.trans e3).trans e4).trans e5
    exact ⟨_, rfl, (by show 1 ≤ sizeLine; decide), fun t ht => fin H5 t [.str "try"] (A1.ex e) (kp.trans (Kp.ex e)) ht (by decide +kernel) (by rw [rf_try]; decide) (by decide)⟩
  · refine q_when (b := false) (et_is (et_test (ev_eq (ev_var rfl) ev_c rfl)) (by decide +kernel)) (fun hb => by cases hb) (fun _ H2 e2 => ?_)
    refine q_when (b := false) (et_is (et_test (ev_eq (ev_var rfl) ev_c rfl)) (by decide +kernel)) (fun hb => by cases hb) (fun _ H3 e3 => ?_)
    refine q_when (b := false) (et_is (et_test (ev_eq (ev_var rfl) ev_c rfl)) (by decide +kernel)) (fun hb => by cases hb) (fun _ H4 e4 => ?_)
    refine q_when (b := false) (et_is (et_test (ev_eq (ev_var rfl) ev_c rfl)) (by decide +kernel)) (fun hb => by cases hb) (fun _ H5 e5 => ?_)
    have e := ((e2.trans e3).trans e4).trans e5
    exact ⟨_, rfl, (by show 1 ≤ sizeLine; decide), fun t ht => fin H5 t [.str "let"] (A1.ex e) (kp.trans (Kp.ex e)) ht (by decide +kernel) (by rw [rf_let]; decide) (by decide)⟩
  · refine q_when (b := false) (et_is (et_test (ev_eq (ev_var rfl) ev_c rfl)) (by decide +kernel)) (fun hb => by cases hb) (fun _ H1 e1 => ?_)
    refine q_when (b := true) (et_is (et_test (ev_eq (ev_var rfl) ev_c rfl)) (by decide +kernel)) (fun _ H2 e2 => ?_) (fun hb => by cases hb)
    have A2 := A1.ex (e1.trans e2)
    refine ⟨_, rfl, _, rfl, _, rfl, h, l, 100, rfl, A2, by decide, by decide, fun r H3 r0 r1 A3 kp3 => ⟨(by show 3 ≤ sizeLine; decide), fun p2 hp2 => ?_⟩⟩
    obtain ⟨n3, n4⟩ := A3.fresh hp2
    refine ⟨h, l, p2, _, rfl, A3.new hp2, upd_same, n3, n4, Nat.le_add_left 1 _, lt1000 (by simp), fun v H4 hv A4 kp4 => ⟨(by show 2 ≤ sizeLine; decide), fun t ht => ?_⟩⟩
    have kp5 : Kp h l H H4 := ((kp.trans (Kp.ex (e1.trans e2))).trans kp3).trans ((Kp.ex (Ex.new hp2)).trans kp4)
    obtain ⟨d, rfl, hd, hf⟩ : ∃ d, v = mkV d ∧ flat0 d = true ∧ sayFits [.str "say", d] = true := by
      simp only [List.mem_cons, List.not_mem_nil, or_false] at hv
      rcases hv with h | h | h
      · exact ⟨.int 0, h, by decide, by decide⟩
      · exact ⟨.int 99, h, by decide, by decide⟩
      · refine ⟨.int r, h, ?_, ?_⟩
        · simp only [flat0, Bool.and_eq_true, decide_eq_true_eq]; omega
        · simp only [sayFits, Bool.and_eq_true, decide_eq_true_eq]; omega
    refine fin H4 t [.str "say", d] A4 kp5 ht ?_ ?_ (by simp)
    · simp only [List.all_cons, List.all_nil, hd, Bool.and_true]
      decide +kernel
    · rw [rf_say]
      exact hf
  · refine q_when (b := false) (et_is (et_test (ev_eq (ev_var rfl) ev_c rfl)) (by decide +kernel)) (fun hb => by cases hb) (fun _ H1 e1 => ?_)
    refine q_when (b := false) (et_is (et_test (ev_eq (ev_var rfl) ev_c rfl)) (by decide +kernel)) (fun hb => by cases hb) (fun _ H2 e2 => ?_)
    refine q_when (b := true) (et_is (et_test (ev_eq (ev_var rfl) ev_c rfl)) (by decide +kernel)) (fun _ H3 e3 => ?_) (fun hb => by cases hb)
    have A2 := A1.ex ((e1.trans e2).trans e3)
    refine ⟨_, rfl, _, rfl, _, rfl, h, l, k, rfl, A2, k0, by omega, fun r H4 r0 r1 A4 kp4 => ⟨(by show 2 ≤ sizeLine; decide), fun t ht => ?_⟩⟩
    refine fin H4 t [.str "goto", .int r] A4 ((kp.trans (Kp.ex ((e1.trans e2).trans e3))).trans kp4) ht ?_ ?_ (by simp)
    · simp only [List.all_cons, List.all_nil, flat0, Bool.and_true, Bool.and_eq_true, decide_eq_true_eq]
      exact ⟨by decide +kernel, by omega, by omega⟩
    · rw [rf_goto]
      simp only [gotoFits, rowNum, Bool.and_eq_true, decide_eq_true_eq]
      exact ⟨r0, r1⟩
  · refine q_when (b := false) (et_is (et_test (ev_eq (ev_var rfl) ev_c rfl)) (by decide +kernel)) (fun hb => by cases hb) (fun _ H1 e1 => ?_)
    refine q_when (b := false) (et_is (et_test (ev_eq (ev_var rfl) ev_c rfl)) (by decide +kernel)) (fun hb => by cases hb) (fun _ H2 e2 => ?_)
    refine q_when (b := false) (et_is (et_test (ev_eq (ev_var rfl) ev_c rfl)) (by decide +kernel)) (fun hb => by cases hb) (fun _ H3 e3 => ?_)
    refine q_when (b := true) (et_is (et_test (ev_eq (ev_var rfl) ev_c rfl)) (by decide +kernel)) (fun _ H4 e4 => ?_) (fun hb => by cases hb)
    have e := ((e1.trans e2).trans e3).trans e4
    have A2 := A1.ex e
    refine ⟨_, rfl, _, rfl, 1, rfl, 99999999, rfl, (by show 6 ≤ sizeLine; decide), fun p2 hp2 => ?_⟩
    obtain ⟨n3, n4⟩ := A2.fresh hp2
    refine ⟨h, l, p2, _, rfl, A2.new hp2, upd_same, n3, n4, by decide, by decide, fun v H5 hv A5 kp5 => ?_⟩
    refine ⟨_, rfl, _, rfl, h, l, k, rfl, A5, k0, by omega, fun r H6 r0 r1 A6 kp6 => ⟨(by show 3 ≤ sizeLine; decide), fun t ht => ?_⟩⟩
    have kp7 : Kp h l H H6 := ((kp.trans (Kp.ex e)).trans ((Kp.ex (Ex.new hp2)).trans kp5)).trans kp6
    obtain ⟨m, rfl, hm⟩ : ∃ m : Int, v = .int m ∧ flat0 (.int m) = true := by
      simp only [List.mem_cons, List.not_mem_nil, or_false] at hv
      rcases hv with h | h | h | h | h | h
      · exact ⟨0, h, by decide⟩
      · exact ⟨1, h, by decide⟩
      · exact ⟨-1, h, by decide⟩
      · exact ⟨7, h, by decide⟩
      · exact ⟨-99999999, h, by decide⟩
      · exact ⟨99999999, h, by decide⟩
    refine fin H6 t [.str "if", .int m, .int r] A6 kp7 ht ?_ ?_ (by simp)
    · simp only [List.all_cons, List.all_nil, hm, Bool.and_true, Bool.true_and]
      simp only [flat0, Bool.and_true, Bool.and_eq_true, decide_eq_true_eq]
      exact ⟨by decide +kernel, by omega, by omega⟩
    · rw [rf_if]
      simp only [ifFits, isWhole, rowNum, Bool.true_and, Bool.and_eq_true, decide_eq_true_eq]
      exact ⟨r0, r1⟩
theorem ok__law_program (T : Tp w K mg) : FnOk P w K mg base CX0 4 T.f__law_program T.d__law_program ["_law_hand_here", "_law_upmost"] spProgram := by
  refine T.F__law_program.ok sc__law_program (fun vs H Q E h => ?_) (fun cdv A outer s H vs Q E hr h => ?_)
  · obtain ⟨h, l, k, rfl, _⟩ := h
    rfl
  obtain ⟨h, l, k, rfl, A0, k0, k1, q⟩ := h
  refine ⟨_, (pss_cons (ps_set (i := 2) sc__law_program.nd rfl (Or.inr rfl) (pe_call (ok__law_pick T) (hr.mono (by decide)) rfl T.m__law_pick T.F__law_pick.kp (b__law_pick T) .nil pass0 (pa_cons (pv 0) (pa_cons (pe_op op_add pe_int (pv 1)) pa_nil (star1 rfl)) (star1 rfl)) (by decide) (star1 rfl) (starAll rfl)))
  (pss_one (ps_ret (pe_callTy call_tuple_of rfl T.z_tuple (by decide +kernel) (pa_cons (pe_lc (own := [("_law_k", 3)]) (g := gName 3) (tt := tYes) rfl sc__law_program.nd (pi_range1 rfl T.z_range (pa_cons (pv 2) pa_nil (star1 rfl))) (blkOk_by (N := N__law_program) (sc := defScope s__law_program) (by decide +kernel)) (fun _ _ _ _ _ => (pg_name (i := 3) sc__law_program.nd rfl (Or.inl rfl))) (fun _ _ _ _ _ => pts_nil) (fun _ _ _ _ _ => (pe_call (ok__law_row T) (hr.mono (by decide)) rfl T.m__law_row T.F__law_row.kp (b__law_row T) .nil pass0 (pa_cons (pv 0) (pa_cons (pv 2) pa_nil (star1 rfl)) (star1 rfl)) (by decide) (star1 rfl) (starAll rfl)))) pa_nil (star1 rfl)) (by decide) (by decide) (star1 rfl) (starAll rfl))))), ?_⟩
  refine ⟨_, rfl, _, rfl, 1, k, rfl, rfl, h, l, 1 + k, rfl, A0, by omega, by omega, fun n H1 n0 n1 A1 kp1 => ?_⟩
  refine ⟨_, rfl, n, rfl, by omega, by omega, fun D hD => ?_⟩
  obtain ⟨d1, d2⟩ := A1.fresh hD
  refine lc_range (lo := 0) (n := n.toNat) (fun i H' => Hand H' h l ∧ Kp h l H H' ∧ ∃ acc, H' D = some (.lst acc) ∧ acc.length = i ∧ ∀ v ∈ acc, Drawn H' v n) ?_ ?_ ?_
  · exact ⟨A1.new hD, kp1.trans (Kp.ex (Ex.new hD)), [], upd_same, rfl, fun v hv => by cases hv⟩
  · intro i H2 hi hp
    obtain ⟨A2, kp2, acc, hacc, hlen, hdr⟩ := hp
    refine ⟨rfl, ?_⟩
    refine tYesP ?_
    refine ⟨_, rfl, _, rfl, h, l, n, rfl, A2, by omega, by omega, fun v H3 dv A3 kp3 => ?_⟩
    refine ⟨acc, kp3 D _ d1 d2 hacc, sz_lt (by omega), A3.upd d1 d2, ?_, acc ++ [v], upd_same, ?_, ?_⟩
    · intro a o m1 m2 ha
      have hne : a ≠ D := by
        intro e
        subst e
        have := kp1 _ _ m1 m2 ha
        rw [hD] at this
        cases this
      rw [upd_ne hne]
      exact kp3 a o m1 m2 (kp2 a o m1 m2 ha)
    · rw [List.length_append, hlen] <;> rfl
    · intro u hu
      have hD3 : ∀ xs, H3 D ≠ some (.tup xs) := fun xs e => by
        rw [kp3 D _ d1 d2 hacc] at e
        cases e
      rcases List.mem_append.mp hu with hu | hu
      · exact ((hdr u hu).kp A2 kp3).upd hD3
      · rw [List.mem_singleton.mp hu]
        exact dv.upd hD3
  · intro H2 hp
    obtain ⟨A2, kp2, acc, hacc, hlen, hdr⟩ := hp
    refine ⟨D, acc, rfl, Or.inl ⟨sq_of hacc, fun t ht => ?_⟩⟩
    have e : (acc.length : Int) = n := by omega
    refine q t acc _ upd_same (by omega) ?_ (A2.new ht) (kp2.trans (Kp.ex (Ex.new ht)))
    rw [e]
    exact fun v hv => (hdr v hv).upd (fun xs z => by rw [ht] at z; cases z)
end

/-! ### the law's own look -/
def wholeIn (d : PyData) (lo hi : Int) : Bool := match d with
  | .int i => decide (lo ≤ i) && decide (i < hi)
  | _ => false
def flatD : PyData → Bool
  | .tuple [] => true
  | d => flat0 d
def rowD : PyData → Bool
  | .tuple ds => ds.all flatD && decide (ds.length ≤ 5)
  | .list ds => ds.all flatD && decide (ds.length ≤ 5)
  | _ => false
theorem flatD_lay {d : PyData} (h : flatD d = true) : d.canLay0 = true ∧ d.depth ≤ 1 := by
  cases d with
  | none => simp [PyData.canLay0, PyData.depth]
  | bool b => simp [PyData.canLay0, PyData.depth]
  | int i => simp [PyData.canLay0, PyData.depth]
  | str x => exact ⟨by simpa [PyData.canLay0, flatD, flat0] using h, by simp [PyData.depth]⟩
  | list ds => cases h
  | tuple ds =>
    cases ds with
    | nil => simp [PyData.canLay0, PyData.canLayAll0, PyData.depth, PyData.depthAll]
    | cons _ _ => cases h
  | dict ds => cases h
theorem flats_lay : ∀ {ds : List PyData}, ds.all flatD = true → PyData.canLayAll0 ds = true ∧ PyData.depthAll ds ≤ 1
  | [], _ => by simp [PyData.canLayAll0, PyData.depthAll]
  | d :: ds, h => by
    rw [List.all_cons, Bool.and_eq_true] at h
    have a := flatD_lay h.1
    have b := flats_lay h.2
    simp only [PyData.canLayAll0, PyData.depthAll, a.1, b.1, Bool.and_self, true_and]
    exact Nat.max_le.mpr ⟨a.2, b.2⟩
theorem shaped_row {ds : List PyData} (h : ds.all flatD = true) : SeqAt.shaped (.tuple ds) = true := by
  have a := flats_lay h
  have b : PyData.canLay0 (.tuple ds) = true := by
    simp only [PyData.canLay0]
    exact a.1
  have c : PyData.depth (.tuple ds) ≤ 64 := by
    have d : PyData.depth (.tuple ds) = PyData.depthAll ds + 1 := by simp only [PyData.depth]
    have := a.2
    omega
  unfold SeqAt.shaped
  rw [b, decide_eq_true c]
  rfl
theorem flat0_D {d : PyData} (h : flat0 d = true) : flatD d = true := by
  cases d <;> first | exact h | cases h
theorem whole_small {d : PyData} (h : flatD d = true) : wholeIn d 0 1000000000000 = wholeFrom d 0 := by
  cases d with
  | int i =>
    simp only [flatD, flat0, Bool.and_eq_true, decide_eq_true_eq] at h
    simp only [wholeIn, wholeFrom]
    rw [decide_eq_true h.2, Bool.and_true]
  | _ => rfl
theorem whole_both {d : PyData} (h : flatD d = true) : wholeIn d (0 - 1000000000000) 1000000000000 = isWhole d := by
  cases d with
  | int i =>
    simp only [flatD, flat0, Bool.and_eq_true, decide_eq_true_eq] at h
    simp only [wholeIn, isWhole]
    rw [decide_eq_true h.2, decide_eq_true (by omega)]
    rfl
  | _ => rfl
theorem whole_num (d : PyData) (k : Int) : wholeIn d 0 k = rowNum d k := by
  cases d <;> rfl
theorem whole_say (x d : PyData) : wholeIn d 0 100 = sayFits [x, d] := by
  cases d with
  | int i =>
    simp only [wholeIn, sayFits]
    congr 1
    exact decide_eq_decide.mpr (by omega)
  | _ => rfl
section
variable {K : PySem.W.Frag} {σ : L2.St} {H : Hp} {ta tb tc : TE}
theorem ev_chain {f g : Int → Int → Bool} {i j k : Int} (ha : Ev ta σ H (.int i)) (hb : Ev tb σ H (.int j)) (hc : Ev tc σ H (.int k)) : Ev (tChain (rI0 fun i j => .bl (f i j)) (rI0 fun i j => .bl (g i j)) ta tb tc) σ H (.bl (f i j && g j k)) := fun H1 e Q q =>
  ha H1 e _ fun H2 e2 => hb H2 (e.trans e2) _ fun H3 e3 => ⟨i, j, rfl, rfl, f i j, rfl, by
    cases hf : f i j with
    | true =>
      rw [if_pos rfl]
      exact hc H3 ((e.trans e2).trans e3) _ fun H4 e4 => ⟨j, k, rfl, rfl, by
        have := q H4 ((e2.trans e3).trans e4)
        rw [hf, Bool.true_and] at this
        exact this⟩
    | false =>
      rw [if_neg (by decide)]
      have := q H3 (e2.trans e3)
      rw [hf, Bool.false_and] at this
      exact this⟩
/-- how many parts a row of this word has -/
def manyOf (z : Str) : Int := if z = "take" then 2 else if z = "try" then 1 else if z = "let" then 1 else if z = "say" then 2 else if z = "goto" then 2 else if z = "if" then 3 else 0
def manyKs : List (Key × V) := [(.inr "take", .int 2), (.inr "try", .int 1), (.inr "let", .int 1), (.inr "say", .int 2), (.inr "goto", .int 2), (.inr "if", .int 3)]
theorem many_val (z : Str) : (valV manyKs (.inr z)).getD (.int 0) = .int (manyOf z) := by
  unfold manyKs manyOf
  by_cases n1 : z = "take"
  · subst n1; rw [valV_pos rfl, if_pos rfl]; rfl
  rw [valV_neg (fun e => n1 (Sum.inr.inj e).symm), if_neg n1]
  by_cases n2 : z = "try"
  · subst n2; rw [valV_pos rfl, if_pos rfl]; rfl
  rw [valV_neg (fun e => n2 (Sum.inr.inj e).symm), if_neg n2]
  by_cases n3 : z = "let"
  · subst n3; rw [valV_pos rfl, if_pos rfl]; rfl
  rw [valV_neg (fun e => n3 (Sum.inr.inj e).symm), if_neg n3]
  by_cases n4 : z = "say"
  · subst n4; rw [valV_pos rfl, if_pos rfl]; rfl
  rw [valV_neg (fun e => n4 (Sum.inr.inj e).symm), if_neg n4]
  by_cases n5 : z = "goto"
  · subst n5; rw [valV_pos rfl, if_pos rfl]; rfl
  rw [valV_neg (fun e => n5 (Sum.inr.inj e).symm), if_neg n5]
  by_cases n6 : z = "if"
  · subst n6; rw [valV_pos rfl, if_pos rfl]; rfl
  rw [valV_neg (fun e => n6 (Sum.inr.inj e).symm), if_neg n6]
  rfl
theorem many_ks : mergeK [] manyKs = manyKs := by decide +kernel
theorem ev_many {z : Str} (hb : Ev tb σ H (.str z)) : Ev (tDGet2 (tDisp [(tC (.str "take"), tC (.int 2)), (tC (.str "try"), tC (.int 1)), (tC (.str "let"), tC (.int 1)), (tC (.str "say"), tC (.int 2)), (tC (.str "goto"), tC (.int 2)), (tC (.str "if"), tC (.int 3))]) tb (tC (.int 0))) σ H (.int (manyOf z)) := fun H1 e Q q => by
  intro p hp
  refine ⟨upd_same, manyKs, rfl, (by decide), p, rfl, Or.inl ⟨manyKs, Or.inl (by rw [many_ks]; exact upd_same)⟩, ?_⟩
  have e0 : Ex H1 (upd (upd H1 p (.dK [])) p (.dK (mergeK [] manyKs))) := Ex.mut (Ex.new hp) hp
  refine hb _ (e.trans e0) _ fun H2 e2 => ⟨valV manyKs (.inr z), DGet.k (k := .inr z) (e2 _ _ (by rw [many_ks]; exact upd_same)), ?_⟩
  rw [many_val]
  exact q H2 (e0.trans e2)
theorem ev_eqNil {p : Addr} {xs : List V} {ds : List PyData} (ha : Ev ta σ H (.ref p)) (hs : SqT K H p xs) (hd : DpAll K H xs ds) (hf : SeqAt.shaped (.tuple ds) = true) : Ev (tOp (rEqD K) ta (tTup tNil)) σ H (.bl ds.isEmpty) :=
  ev_opU (xs := []) ha (eu_tup ea_nil (by decide)) fun p H1 hp e1 H2 e2 Q q => ⟨.tuple ds, .tuple [], .tup (ex_t (e1.trans e2) hs) (dpa_mono (e1.trans e2) hd), .tup (st_of (e2 _ _ hp)) .nil, hf, by decide +kernel, by
    have e : PyData.eqv (.tuple ds) (.tuple []) = ds.isEmpty := by
      simp only [PyData.eqv, eqv_nil]
    rw [e]
    exact q H2 (Ex.refl H2)⟩
end
def spLW (K : PySem.W.Frag) : Sp := fun vs H Q _ => ∃ (v : V) (d : PyData) (lo hi : Int), vs = [v, .int lo, .int hi] ∧ Dp K H v d ∧ ∀ H', Ex H H' → Q (.bl (wholeIn d lo hi)) H'
def spLRow (K : PySem.W.Frag) : Sp := fun vs H Q _ => ∃ (v : V) (d : PyData) (k : Int), vs = [v, .int k] ∧ Dp K H v d ∧ rowD d = true ∧ ∀ H', Ex H H' → Q (.bl (rowFits d k)) H'
def spLProg (K : PySem.W.Frag) : Sp := fun vs H Q _ => ∃ (a : Addr) (xs : List V) (ds : List PyData), vs = [.ref a] ∧ SqT K H a xs ∧ DpAll K H xs ds ∧ xs.length ≤ 40000 ∧ (∀ d ∈ ds, rowD d = true) ∧ ∀ H', Ex H H' → Q (.bl (progFits (.tuple ds))) H'
section
variable {P : Program} {w : World} {K : PySem.W.Frag} {mg : Str → Option Value} {base : Heap}
theorem ok__law_whole (T : Tp w K mg) : FnOk P w K mg base CX0 1 T.f__law_whole T.d__law_whole ["_law_thing", "_law_low", "_law_high"] (spLW K) := by
  refine T.F__law_whole.ok sc__law_whole (fun vs H Q E h => ?_) (fun cdv A outer s H vs Q E hr h => ?_)
  · obtain ⟨v, d, lo, hi, rfl, _⟩ := h
    rfl
  obtain ⟨v, d, lo, hi, rfl, hd, q⟩ := h
  refine ⟨_, (pss_one (ps_ret (pe_and (pe_callB (isiK (K := K) rfl) rfl T.z_isinstance (by decide +kernel) (pa_cons (pv 0) (pa_cons (pe_bltn (v := .ty "int") rfl T.z_int (by decide +kernel) rfl) pa_nil (star1 rfl)) (star1 rfl)) (by decide) (by decide) (star1 rfl) (starAll rfl)) (pe_and (pe_not (pe_callB (isiK (K := K) rfl) rfl T.z_isinstance (by decide +kernel) (pa_cons (pv 0) (pa_cons (pe_bltn (v := .ty "bool") rfl T.z_bool (by decide +kernel) rfl) pa_nil (star1 rfl)) (star1 rfl)) (by decide) (by decide) (star1 rfl) (starAll rfl))) (pe_one (pe_chain op_le op_lt (pv 1) (pv 0) (pv 2))))))), ?_⟩
  refine s_ret (ev_is (ev_andV (ev_isi (ev_var rfl) hd (kt_int d)) fun _ => ev_andV (b := wholeIn d lo hi) (ev_notV (ev_isi (ev_var rfl) hd (kt_bool d))) fun hb => ?_) ?_) q
  · cases hd with
    | int i => exact ev_chain (ev_var rfl) (ev_var rfl) (ev_var rfl)
    | bl b => cases hb
    | _ => rename_i h1; cases h1
  · cases d <;> simp [isIntB, isBoolB, wholeIn]
theorem row0 {d : PyData} {k : Int} (h : ∀ z ds, d ≠ .tuple (.str z :: ds)) {Q : VK} {H : Hp} (q : Q (.bl (rowFits d k)) H) : Q (.bl false) H := by
  rw [rowFits_no h] at q
  exact q
theorem ok__law_is_row (T : Tp w K mg) : FnOk P w K mg base CX0 2 T.f__law_is_row T.d__law_is_row ["_law_thing", "_law_size"] (spLRow K) := by
  refine T.F__law_is_row.ok sc__law_is_row (fun vs H Q E h => ?_) (fun cdv A outer s H vs Q E hr h => ?_)
  · obtain ⟨v, d, k, rfl, _⟩ := h
    rfl
  obtain ⟨v, d, k, rfl, hd, hrow, q⟩ := h
  refine ⟨_, (pss_cons (ps_if (PW.pt (pw_or (pt_not (pt_val (pe_callB (isiK (K := K) rfl) rfl T.z_isinstance (by decide +kernel) (pa_cons (pv 0) (pa_cons (pe_bltn (v := .ty "tuple") rfl T.z_tuple (by decide +kernel) rfl) pa_nil (star1 rfl)) (star1 rfl)) (by decide) (by decide) (star1 rfl) (starAll rfl)))) (pw_or (pt_cmpR (eqDK (K := K) rfl hr.units) (pv 0) (pe_tup pa_nil) (nomark _)) (pw_or1 (pt_not (pt_val (pe_callB (isiK (K := K) rfl) rfl T.z_isinstance (by decide +kernel) (pa_cons (pe_ix (ixTK (K := K) rfl) (pv 0) pe_int (fun _ _ => rfl)) (pa_cons (pe_bltn (v := .ty "str") rfl T.z_str (by decide +kernel) rfl) pa_nil (star1 rfl)) (star1 rfl)) (by decide) (by decide) (star1 rfl) (starAll rfl)))))))) (pss_one (ps_ret pe_bl)) pss_nil)
  (pss_cons (ps_set (i := 2) sc__law_is_row.nd rfl (Or.inl rfl) (pe_dget2 (hu_of hr) (pe_disp (pps_cons pe_str pe_int (pps_cons pe_str pe_int (pps_cons pe_str pe_int (pps_cons pe_str pe_int (pps_cons pe_str pe_int (pps_cons pe_str pe_int pps_nil)))))) (by rfl) (by rfl) (fun z => by cases z) (by decide)) (pe_ix (ixTK (K := K) rfl) (pv 0) pe_int (fun _ _ => rfl)) pe_int ⟨rfl, rfl, rfl, rfl⟩))
  (pss_cons (ps_if (pt_cmpR op_ne (pe_callB (lenK (K := K) rfl) rfl T.z_len PySem.boot_len (pa_cons (pv 0) pa_nil (star1 rfl)) (by decide) (by decide) (star1 rfl) (starAll rfl)) (pv 2) (nomark _)) (pss_one (ps_ret pe_bl)) pss_nil)
  (pss_cons (ps_if (pt_cmpR op_eq (pe_ix (ixTK (K := K) rfl) (pv 0) pe_int (fun _ _ => rfl)) pe_str (nomark _)) (pss_one (ps_ret (pe_or (pe_cmp (pc_isN (pe_ix (ixTK (K := K) rfl) (pv 0) pe_int (fun _ _ => rfl)))) (pe_one (pe_call (ok__law_whole T) (hr.mono (by decide)) rfl T.m__law_whole T.F__law_whole.kp (b__law_whole T) .nil pass0 (pa_cons (pe_ix (ixTK (K := K) rfl) (pv 0) pe_int (fun _ _ => rfl)) (pa_cons pe_int (pa_cons (pe_op op_pow pe_int pe_int) pa_nil (star1 rfl)) (star1 rfl)) (star1 rfl)) (by decide) (star1 rfl) (starAll rfl)))))) pss_nil)
  (pss_cons (ps_if (pt_cmpR op_eq (pe_ix (ixTK (K := K) rfl) (pv 0) pe_int (fun _ _ => rfl)) pe_str (nomark _)) (pss_one (ps_ret (pe_call (ok__law_whole T) (hr.mono (by decide)) rfl T.m__law_whole T.F__law_whole.kp (b__law_whole T) .nil pass0 (pa_cons (pe_ix (ixTK (K := K) rfl) (pv 0) pe_int (fun _ _ => rfl)) (pa_cons pe_int (pa_cons pe_int pa_nil (star1 rfl)) (star1 rfl)) (star1 rfl)) (by decide) (star1 rfl) (starAll rfl)))) pss_nil)
  (pss_cons (ps_if (pt_cmpR op_eq (pe_ix (ixTK (K := K) rfl) (pv 0) pe_int (fun _ _ => rfl)) pe_str (nomark _)) (pss_one (ps_ret (pe_call (ok__law_whole T) (hr.mono (by decide)) rfl T.m__law_whole T.F__law_whole.kp (b__law_whole T) .nil pass0 (pa_cons (pe_ix (ixTK (K := K) rfl) (pv 0) pe_int (fun _ _ => rfl)) (pa_cons pe_int (pa_cons (pv 1) pa_nil (star1 rfl)) (star1 rfl)) (star1 rfl)) (by decide) (star1 rfl) (starAll rfl)))) pss_nil)
  (pss_one (ps_ret (pe_or (pe_cmpR op_ne (pe_ix (ixTK (K := K) rfl) (pv 0) pe_int (fun _ _ => rfl)) pe_str (nomark _)) (pe_one (pe_and (pe_call (ok__law_whole T) (hr.mono (by decide)) rfl T.m__law_whole T.F__law_whole.kp (b__law_whole T) .nil pass0 (pa_cons (pe_ix (ixTK (K := K) rfl) (pv 0) pe_int (fun _ _ => rfl)) (pa_cons (pe_op op_sub pe_int (pe_op op_pow pe_int pe_int)) (pa_cons (pe_op op_pow pe_int pe_int) pa_nil (star1 rfl)) (star1 rfl)) (star1 rfl)) (by decide) (star1 rfl) (starAll rfl)) (pe_one (pe_call (ok__law_whole T) (hr.mono (by decide)) rfl T.m__law_whole T.F__law_whole.kp (b__law_whole T) .nil pass0 (pa_cons (pe_ix (ixTK (K := K) rfl) (pv 0) pe_int (fun _ _ => rfl)) (pa_cons pe_int (pa_cons (pv 1) pa_nil (star1 rfl)) (star1 rfl)) (star1 rfl)) (by decide) (star1 rfl) (starAll rfl)))))))))))))), ?_⟩
  by_cases ht : isTupB d = true
  case neg =>
    have hb : isTupB d = false := by simpa using ht
    refine q_when (b := true) (et_is (et_or (b := false) (et_not (et_B (ev_isi (ev_var rfl) hd (kt_tuple d)))) fun h => ?_) (by rw [hb]; rfl)) (fun _ H1 e1 => ?_) (fun h => by cases h)
    · rw [hb] at h
      cases h
    · exact s_ret ev_c fun H2 e2 => row0 (fun z ds h => by subst h; cases hb) (q H2 (e1.trans e2))
  cases hd with
  | tup hs ha =>
    rename_i a xs ds
    have hfl : ds.all flatD = true := by
      simp only [rowD, Bool.and_eq_true] at hrow
      exact hrow.1
    have hsh := shaped_row hfl
    have t1 : EvT (tNot (tB (tCB (rIsi K) (tCons (tVar 0) (tCons (tC (.ty "tuple")) tNil))))) (start N__law_is_row [.ref a, .int k]) H false := et_not (et_B (ev_isi (ev_var rfl) (Dp.tup hs ha) (kt_tuple (.tuple ds))))
    cases ha with
    | nil =>
      refine q_when (b := true) (et_is (et_or t1 fun _ => et_or (b := false) (et_test (ev_eqNil (ev_var rfl) hs .nil hsh)) fun h => by cases h) rfl) (fun _ H1 e1 => ?_) (fun h => by cases h)
      exact s_ret ev_c fun H2 e2 => row0 (fun z ds h => by cases h) (q H2 (e1.trans e2))
    | cons hx hr' =>
      rename_i x xs' d ds'
      have i0 : ∀ {H1 : Hp} (σ' : L2.St), Ex H H1 → σ'[0]? = some (some (.ref a)) → Ev (tOp (rIxT K) (tVar 0) (tC (.int 0))) σ' H1 x := fun σ' e hσ => ev_ixT (v := x) (ev_var hσ) ev_c (ex_t e hs) (by simp [atI, ixN])
      refine q_when (b := !isStrB d) (et_is (et_or t1 fun _ => et_or (et_test (ev_eqNil (ev_var rfl) hs (.cons hx hr') hsh)) fun _ => et_not (et_B (ev_isi (i0 _ (Ex.refl H) rfl) hx (kt_str d)))) rfl) (fun hb H1 e1 => ?_) (fun hb H1 e1 => ?_)
      · refine s_ret ev_c fun H2 e2 => row0 (fun z es h => ?_) (q H2 (e1.trans e2))
        cases h
        cases hb
      · cases hx with
        | str z =>
          refine q_asg (v := .int (manyOf z)) (ev_many (i0 _ e1 rfl)) fun H2 e2 => ?_
          have e12 := e1.trans e2
          have hs2 := ex_t e12 hs
          have ha2 : DpAll K H2 (.str z :: xs') (.str z :: ds') := dpa_mono e12 (.cons (.str z) hr')
          refine q_when (et_test (ev_ne (ev_lenT (ev_var rfl) hs2) (ev_var rfl) rfl)) (fun hb2 H3 e3 => ?_) (fun hb2 H3 e3 => ?_)
          · refine s_ret ev_c fun H4 e4 => ?_
            have hne : ¬ (((V.str z :: xs').length : Nat) : Int) = manyOf z := by
              intro e
              rw [e] at hb2
              simp at hb2
            rw [dpa_len ha2] at hne
            have hf : rowFits (.tuple (.str z :: ds')) k = false := by
              cases hc : rowFits (.tuple (.str z :: ds')) k with
              | false => rfl
              | true =>
                exfalso
                apply hne
                unfold rowFits at hc
                unfold manyOf
                simp only at hc
                split at hc
                · rw [if_pos (by assumption), takeFits_len hc]; rfl
                rw [if_neg (by assumption)]
                split at hc
                · rw [if_pos (by assumption), of_decide_eq_true (show decide _ = true from hc)]; rfl
                rw [if_neg (by assumption)]
                split at hc
                · rw [if_pos (by assumption), of_decide_eq_true (show decide _ = true from hc)]; rfl
                rw [if_neg (by assumption)]
                split at hc
                · rw [if_pos (by assumption), sayFits_len hc]; rfl
                rw [if_neg (by assumption)]
                split at hc
                · rw [if_pos (by assumption), gotoFits_len hc]; rfl
                rw [if_neg (by assumption)]
                split at hc
                · rw [if_pos (by assumption), ifFits_len hc]; rfl
                cases hc
            have := q H4 ((e12.trans e3).trans e4)
            rw [hf] at this
            exact this
          · have e13 := e12.trans e3
            have hs3 := ex_t e13 hs
            have hlen : (((V.str z :: xs').length : Nat) : Int) = manyOf z := by
              simp only [Bool.not_eq_false', decide_eq_true_eq] at hb2
              exact V.int.inj hb2
            have go : ∀ (b : Bool) {H4 : Hp}, Ex H3 H4 → b = rowFits (.tuple (.str z :: ds')) k → Q (.bl b) H4 := fun b H4 e hb => by
              rw [hb]
              exact q H4 (e13.trans e)
            have yes : ∀ {H4 : Hp} {u : Str} (σ' : L2.St), Ex H3 H4 → σ'[0]? = some (some (.ref a)) → z = u → EvT (tTest (tOp rEq (tOp (rIxT K) (tVar 0) (tC (.int 0))) (tC (.str u)))) σ' H4 true := fun σ' e hσ hz => et_is (et_test (ev_eq (i0 σ' (e13.trans e) hσ) ev_c rfl)) (by rw [hz]; exact decide_eq_true rfl)
            have not : ∀ {H4 : Hp} {u : Str} (σ' : L2.St), Ex H3 H4 → σ'[0]? = some (some (.ref a)) → z ≠ u → EvT (tTest (tOp rEq (tOp (rIxT K) (tVar 0) (tC (.int 0))) (tC (.str u)))) σ' H4 false := fun σ' e hσ hz => et_is (et_test (ev_eq (i0 σ' (e13.trans e) hσ) ev_c rfl)) (decide_eq_false fun h => hz (V.str.inj h))
            have p12 : ∀ {H4 : Hp} (σ' : L2.St), Ev (tOp (rI CPow fun i j => .int (i ^ j.toNat)) (tC (.int 10)) (tC (.int 12))) σ' H4 (.int 1000000000000) := fun σ' => ev_is (ev_I (C := CPow) ⟨by decide, by decide, by decide⟩ ev_c ev_c) rfl
            by_cases n1 : z = "take"
            · subst n1
              obtain ⟨x, y, d, f, ex, ed, hx, hy⟩ := dpa2 (.cons (.str "take") hr') (by have : (((V.str "take" :: xs').length : Nat) : Int) = 2 := hlen; omega)
              cases ex
              cases ed
              have hff : flatD f = true := by simp only [List.all_cons, Bool.and_eq_true] at hfl; exact hfl.2.1
              refine q_when (yes _ (Ex.refl H3) rfl rfl) (fun _ H4 e4 => ?_) (fun h => by cases h)
              have i1 : Ev (tOp (rIxT K) (tVar 0) (tC (.int 1))) ((start N__law_is_row [.ref a, .int k]).set 2 (some (.int (manyOf "take")))) H4 y := ev_ixT (v := y) (ev_var rfl) ev_c (ex_t (e13.trans e4) hs) rfl
              refine s_ret (ev_orV (ev_isN i1) fun _ => ev_call (ea_cons i1 (ea_cons ev_c (ea_cons (p12 _) ea_nil))) fun H5 e5 Q' q' E' => ⟨y, f, 0, 1000000000000, rfl, dp_mono ((e13.trans e4).trans e5) hy, q'⟩) fun H5 e5 => go _ (e4.trans e5) ?_
              rw [rf_take, whole_small hff]
              cases hy <;> simp [takeFits]
            refine q_when (not _ (Ex.refl H3) rfl n1) (fun h => by cases h) (fun _ H4 e4 => ?_)
            by_cases n2 : z = "say"
            · subst n2
              obtain ⟨x, y, d, f, ex, ed, hx, hy⟩ := dpa2 (.cons (.str "say") hr') (by have : (((V.str "say" :: xs').length : Nat) : Int) = 2 := hlen; omega)
              cases ex
              cases ed
              refine q_when (yes _ e4 rfl rfl) (fun _ H5 e5 => ?_) (fun h => by cases h)
              have i1 : Ev (tOp (rIxT K) (tVar 0) (tC (.int 1))) ((start N__law_is_row [.ref a, .int k]).set 2 (some (.int (manyOf "say")))) H5 y := ev_ixT (v := y) (ev_var rfl) ev_c (ex_t ((e13.trans e4).trans e5) hs) rfl
              refine s_ret (ev_call (ea_cons i1 (ea_cons ev_c (ea_cons ev_c ea_nil))) fun H6 e6 Q' q' E' => ⟨y, f, 0, 100, rfl, dp_mono (((e13.trans e4).trans e5).trans e6) hy, q'⟩) fun H6 e6 => go _ ((e4.trans e5).trans e6) ?_
              rw [rf_say, whole_say]
            refine q_when (not _ e4 rfl n2) (fun h => by cases h) (fun _ H5 e5 => ?_)
            by_cases n3 : z = "goto"
            · subst n3
              obtain ⟨x, y, d, f, ex, ed, hx, hy⟩ := dpa2 (.cons (.str "goto") hr') (by have : (((V.str "goto" :: xs').length : Nat) : Int) = 2 := hlen; omega)
              cases ex
              cases ed
              refine q_when (yes _ (e4.trans e5) rfl rfl) (fun _ H6 e6 => ?_) (fun h => by cases h)
              have i1 : Ev (tOp (rIxT K) (tVar 0) (tC (.int 1))) ((start N__law_is_row [.ref a, .int k]).set 2 (some (.int (manyOf "goto")))) H6 y := ev_ixT (v := y) (ev_var rfl) ev_c (ex_t (((e13.trans e4).trans e5).trans e6) hs) rfl
              refine s_ret (ev_call (ea_cons i1 (ea_cons ev_c (ea_cons (ev_var rfl) ea_nil))) fun H7 e7 Q' q' E' => ⟨y, f, 0, k, rfl, dp_mono ((((e13.trans e4).trans e5).trans e6).trans e7) hy, q'⟩) fun H7 e7 => go _ (((e4.trans e5).trans e6).trans e7) ?_
              rw [rf_goto, whole_num]
              rfl
            refine q_when (not _ (e4.trans e5) rfl n3) (fun h => by cases h) (fun _ H6 e6 => ?_)
            have e36 := (e4.trans e5).trans e6
            by_cases n4 : z = "if"
            · subst n4
              obtain ⟨x, y, v, d, f, g, ex, ed, hx, hy, hv⟩ := dpa3 (.cons (.str "if") hr') (by have : (((V.str "if" :: xs').length : Nat) : Int) = 3 := hlen; omega)
              cases ex
              cases ed
              have hff : flatD f = true := by simp only [List.all_cons, Bool.and_eq_true] at hfl; exact hfl.2.1
              have i1 : Ev (tOp (rIxT K) (tVar 0) (tC (.int 1))) ((start N__law_is_row [.ref a, .int k]).set 2 (some (.int (manyOf "if")))) H6 y := ev_ixT (v := y) (ev_var rfl) ev_c (ex_t (e13.trans e36) hs) rfl
              have i2 : Ev (tOp (rIxT K) (tVar 0) (tC (.int 2))) ((start N__law_is_row [.ref a, .int k]).set 2 (some (.int (manyOf "if")))) H6 v := ev_ixT (v := v) (ev_var rfl) ev_c (ex_t (e13.trans e36) hs) rfl
              refine s_ret (ev_orV (b := wholeIn f (0 - 1000000000000) 1000000000000 && wholeIn g 0 k) (ev_ne (i0 _ (e13.trans e36) rfl) ev_c rfl) fun _ => ev_andV (ev_call (ea_cons i1 (ea_cons (ev_I0 ev_c (p12 _)) (ea_cons (p12 _) ea_nil))) fun H7 e7 Q' q' E' => ⟨y, f, 0 - 1000000000000, 1000000000000, rfl, dp_mono ((e13.trans e36).trans e7) hy, q'⟩)
                fun _ => ev_call (ea_cons i2 (ea_cons ev_c (ea_cons (ev_var rfl) ea_nil))) fun H7 e7 Q' q' E' => ⟨v, g, 0, k, rfl, dp_mono ((e13.trans e36).trans e7) hv, q'⟩) fun H7 e7 => go _ (e36.trans e7) ?_
              rw [rf_if, whole_both hff, whole_num, decide_eq_true rfl]
              rfl
            · refine s_ret (ev_orV (b := false) (ev_ne (i0 _ (e13.trans e36) rfl) ev_c rfl) fun h => ?_) fun H7 e7 => go _ (e36.trans e7) ?_
              · have : decide (V.str z = V.str "if") = false := decide_eq_false fun e => n4 (V.str.inj e)
                rw [this] at h
                cases h
              · have : decide (V.str z = V.str "if") = false := decide_eq_false fun e => n4 (V.str.inj e)
                rw [this]
                have hl2 : ((xs'.length : Nat) : Int) + 1 = manyOf z := by simpa using hlen
                have hl3 : xs'.length = ds'.length := by have := dpa_len hr'; exact this
                unfold manyOf at hl2
                unfold rowFits
                simp only
                rw [if_neg n1] at hl2 ⊢
                by_cases m1 : z = "try"
                · rw [if_pos m1] at hl2 ⊢
                  unfold wordFits
                  rw [decide_eq_true (by rw [List.length_cons]; omega)]
                  rfl
                rw [if_neg m1] at hl2 ⊢
                by_cases m2 : z = "let"
                · rw [if_pos m2] at hl2 ⊢
                  unfold wordFits
                  rw [decide_eq_true (by rw [List.length_cons]; omega)]
                  rfl
                rw [if_neg m2, if_neg n2, if_neg n3, if_neg n4] at hl2
                omega
        | _ => cases hb
  | _ => cases ht
theorem ok__law_is_program (T : Tp w K mg) : FnOk P w K mg base CX0 3 T.f__law_is_program T.d__law_is_program ["_law_thing"] (spLProg K) := by
  refine T.F__law_is_program.ok sc__law_is_program (fun vs H Q E h => ?_) (fun cdv A outer s H vs Q E hr h => ?_)
  · obtain ⟨a, xs, ds, rfl, _⟩ := h
    rfl
  obtain ⟨a, xs, ds, rfl, hs, ha, hz, hrow, q⟩ := h
  refine ⟨_, (pss_one (ps_ret (pe_and (pe_callB (isiK (K := K) rfl) rfl T.z_isinstance (by decide +kernel) (pa_cons (pv 0) (pa_cons (pe_bltn (v := .ty "tuple") rfl T.z_tuple (by decide +kernel) rfl) pa_nil (star1 rfl)) (star1 rfl)) (by decide) (by decide) (star1 rfl) (starAll rfl)) (pe_one (pe_callB (allK (K := K) rfl rfl) rfl T.z_all (by decide +kernel) (pa_cons (pe_lc (own := [("_law_row_here", 1)]) (g := gName 1) (tt := tYes) rfl sc__law_is_program.nd (pi_tup (pv 0)) (blkOk_by (N := N__law_is_program) (sc := defScope s__law_is_program) (by decide +kernel)) (fun _ _ _ _ _ => (pg_name (i := 1) sc__law_is_program.nd rfl (Or.inl rfl))) (fun _ _ _ _ _ => pts_nil) (fun _ _ _ _ _ => (pe_call (ok__law_is_row T) (hr.mono (by decide)) rfl T.m__law_is_row T.F__law_is_row.kp (b__law_is_row T) .nil pass0 (pa_cons (pv 1) (pa_cons (pe_callB (lenK (K := K) rfl) rfl T.z_len PySem.boot_len (pa_cons (pv 0) pa_nil (star1 rfl)) (by decide) (by decide) (star1 rfl) (starAll rfl)) pa_nil (star1 rfl)) (star1 rfl)) (by decide) (star1 rfl) (starAll rfl)))) pa_nil (star1 rfl)) (by decide) (by decide) (star1 rfl) (starAll rfl)))))), ?_⟩
  have hl := dpa_len ha
  refine s_ret (ev_is (ev_andV (ev_isi (ev_var rfl) (Dp.tup hs ha) (kt_tuple (.tuple ds))) fun _ => ev_allN (bs := (List.range xs.length).map fun i => rowFits (ds.getD i .none) ds.length) ?_) ?_) q
  · have c := el_lcT (K := K) (σ := start N__law_is_program [.ref a]) (H := H) (tl := tVar 0) (tt := tYes) (te := tCall (spLRow K) [] E0 (tCons (tVar 1) (tCons (tCB (rLenS K) (tCons (tVar 0) tNil)) tNil))) (j := 1) (vs := [1]) (fun _ => true) (fun i => .bl (rowFits (ds.getD i .none) ds.length))
      (ev_var rfl) hs (by omega) (fun x => rfl) (fun i x H2 e2 hi => et_yes) (fun i x H2 e2 hi _ => ?_)
    · rw [given_all] at c
      rw [List.map_map]
      exact c
    · obtain ⟨d, h1, h2⟩ := dpa_get ha hi
      have e : ds.getD i .none = d := by rw [List.getD_eq_getElem?_getD, h1]; rfl
      rw [e]
      refine ev_call (vs := [x, .int xs.length]) (ea_cons (ev_var rfl) (ea_cons (ev_lenT (ev_var rfl) (ex_t e2 hs)) ea_nil)) fun H3 e3 Q' q' E' => ⟨x, d, (xs.length : Int), rfl, dp_mono (e2.trans e3) h2, hrow d (List.mem_of_getElem? h1), ?_⟩
      rw [hl]
      exact q'
  · exact congrArg V.bl ((Bool.true_and _).trans (all_range hl))
end

/-! ### rows in the heap, one object aside -/
def rm (H : Hp) (S : List Addr) : Hp := fun a => if a ∈ S then none else H a
theorem rm_at {H : Hp} {S : List Addr} {a : Addr} (h : a ∉ S) : rm H S a = H a := by
  unfold rm
  rw [if_neg h]
theorem rm_sub (H : Hp) (S : List Addr) : Ex (rm H S) H := fun a o e => by
  unfold rm at e
  split at e
  · cases e
  · exact e
theorem rm_ex {H H' : Hp} {S : List Addr} (e : Ex H H') : Ex (rm H S) (rm H' S) := fun a o h => by
  unfold rm at h ⊢
  split at h
  · cases h
  · rename_i n
    rw [if_neg n]
    exact e a o h
theorem rm_upd {H : Hp} {S : List Addr} {f : Addr} {o : HO} (h : f ∈ S) : rm (upd H f o) S = rm H S := by
  funext a
  unfold rm
  split
  · rfl
  · rename_i n
    exact upd_ne (fun z => n (by rw [z]; exact h))
theorem rm_fresh {H : Hp} {S : List Addr} {f : Addr} (h : H f = none) : rm H (f :: S) = rm H S := by
  funext a
  unfold rm
  by_cases ha : a ∈ S
  · rw [if_pos ha, if_pos (List.mem_cons_of_mem _ ha)]
  · rw [if_neg ha]
    by_cases e : a = f
    · subst e
      rw [if_pos (List.mem_cons_self ..), h]
    · rw [if_neg (fun z => by rcases List.mem_cons.mp z with z | z; exact e z; exact ha z)]
theorem rm_less {H : Hp} {S : List Addr} {f : Addr} : Ex (rm H (f :: S)) (rm H S) := fun a o h => by
  unfold rm at h ⊢
  split at h
  · cases h
  · rename_i n
    rw [if_neg (fun z => n (List.mem_cons_of_mem _ z))]
    exact h
def FV (K : PySem.W.Frag) (H : Hp) (v : V) : Prop := ∃ d, Dp K H v d ∧ flatD d = true
def RowV (K : PySem.W.Frag) (H : Hp) (v : V) : Prop := ∃ d, Dp K H v d ∧ rowD d = true
theorem FV.mono {K : PySem.W.Frag} {H H' : Hp} {v : V} (e : Ex H H') (h : FV K H v) : FV K H' v := by
  obtain ⟨d, h1, h2⟩ := h
  exact ⟨d, dp_mono e h1, h2⟩
theorem RowV.mono {K : PySem.W.Frag} {H H' : Hp} {v : V} (e : Ex H H') (h : RowV K H v) : RowV K H' v := by
  obtain ⟨d, h1, h2⟩ := h
  exact ⟨d, dp_mono e h1, h2⟩
section
variable {K : PySem.W.Frag} {σ : L2.St} {H : Hp} {f : List Addr} {te tb : TE} {ta tr : TA}
/-- evaluates to a flat thing | to a row | arguments to flat things | to rows | to a new list of rows; f lies aside -/
def EF (K : PySem.W.Frag) (f : List Addr) (te : TE) (σ : L2.St) (H : Hp) : Prop := ∀ H1, Ex H H1 → ∀ Q : VK, (∀ v H2, Ex H1 H2 → FV K (rm H2 f) v → Q v H2) → te σ H1 Q
def ER (K : PySem.W.Frag) (f : List Addr) (te : TE) (σ : L2.St) (H : Hp) : Prop := ∀ H1, Ex H H1 → ∀ Q : VK, (∀ v H2, Ex H1 H2 → RowV K (rm H2 f) v → Q v H2) → te σ H1 Q
def AF (K : PySem.W.Frag) (f : List Addr) (n : Nat) (ta : TA) (σ : L2.St) (H : Hp) : Prop := ∀ H1, Ex H H1 → ∀ Q : List V → Hp → Prop, (∀ vs H2, Ex H1 H2 → vs.length = n → (∀ v ∈ vs, FV K (rm H2 f) v) → Q vs H2) → ta σ H1 Q
def AR (K : PySem.W.Frag) (f : List Addr) (n : Nat) (ta : TA) (σ : L2.St) (H : Hp) : Prop := ∀ H1, Ex H H1 → ∀ Q : List V → Hp → Prop, (∀ vs H2, Ex H1 H2 → vs.length = n → (∀ v ∈ vs, RowV K (rm H2 f) v) → Q vs H2) → ta σ H1 Q
def LR (K : PySem.W.Frag) (f : List Addr) (n : Nat) (te : TE) (σ : L2.St) (H : Hp) : Prop := ∀ H1, Ex H H1 → ∀ Q : VK, (∀ p vs H2, H1 p = none → Ex H1 H2 → H2 p = some (.lst vs) → vs.length = n → (∀ v ∈ vs, RowV K (rm H2 (p :: f)) v) → Q (.ref p) H2) → te σ H1 Q
theorem ef_c {d : PyData} (h : flat0 d = true) : EF K f (tC (mkV d)) σ H := fun H1 _ Q q => q _ H1 (Ex.refl H1) ⟨d, dp_flat h, flat0_D h⟩
theorem ef_var {i : Nat} {v : V} (h : σ[i]? = some (some v)) (hv : FV K (rm H f) v) : EF K f (tVar i) σ H := fun H1 e Q q => ⟨v, h, q v H1 (Ex.refl H1) (hv.mono (rm_ex e))⟩
theorem af_nil : AF K f 0 tNil σ H := fun H1 _ Q q => q [] H1 (Ex.refl H1) rfl (fun v h => by cases h)
theorem af_cons {n : Nat} (h : EF K f te σ H) (hr : AF K f n tr σ H) : AF K f (n + 1) (tCons te tr) σ H := fun H1 e Q q =>
  h H1 e _ fun v H2 e2 hv => hr H2 (e.trans e2) _ fun vs H3 e3 hl hvs => q (v :: vs) H3 (e2.trans e3) (by rw [List.length_cons, hl]) fun u hu => by
    rcases List.mem_cons.mp hu with rfl | hu
    · exact hv.mono (rm_ex e3)
    · exact hvs u hu
theorem ar_nil : AR K f 0 tNil σ H := fun H1 _ Q q => q [] H1 (Ex.refl H1) rfl (fun v h => by cases h)
theorem ar_cons {n : Nat} (h : ER K f te σ H) (hr : AR K f n tr σ H) : AR K f (n + 1) (tCons te tr) σ H := fun H1 e Q q =>
  h H1 e _ fun v H2 e2 hv => hr H2 (e.trans e2) _ fun vs H3 e3 hl hvs => q (v :: vs) H3 (e2.trans e3) (by rw [List.length_cons, hl]) fun u hu => by
    rcases List.mem_cons.mp hu with rfl | hu
    · exact hv.mono (rm_ex e3)
    · exact hvs u hu
theorem fvs_dpa {H : Hp} : ∀ {vs : List V}, (∀ v ∈ vs, FV K H v) → ∃ ds, DpAll K H vs ds ∧ ds.all flatD = true
  | [], _ => ⟨[], .nil, rfl⟩
  | v :: vs, h => by
    obtain ⟨d, h1, h2⟩ := h v (List.mem_cons_self ..)
    obtain ⟨ds, h3, h4⟩ := fvs_dpa (fun u hu => h u (List.mem_cons_of_mem _ hu))
    exact ⟨d :: ds, .cons h1 h3, by rw [List.all_cons, h2, h4]; rfl⟩
def Up (H : Hp) (S : List Addr) : Prop := ∀ f ∈ S, ∃ o, H f = some o
theorem Up.ex {H H' : Hp} {S : List Addr} (h : Up H S) (e : Ex H H') : Up H' S := fun f hf => by
  obtain ⟨o, ho⟩ := h f hf
  exact ⟨o, e _ _ ho⟩
theorem ne_new {H H2 : Hp} {S : List Addr} {p : Addr} (hf : Up H S) (e : Ex H H2) (hp : H2 p = none) : p ∉ S := by
  intro z
  obtain ⟨o, ho⟩ := hf p z
  rw [e _ _ ho] at hp
  cases hp
theorem er_tup {n : Nat} (hf : Up H f) (h : AF K f n ta σ H) (hn : n ≤ 5) : ER K f (tTup ta) σ H := fun H1 e Q q =>
  h H1 e _ fun vs H2 e2 hl hvs => ⟨sz_of (by omega), fun p hp => q _ _ (e2.trans (Ex.new hp)) (by
    obtain ⟨ds, h1, h2⟩ := fvs_dpa hvs
    have np := ne_new hf (e.trans e2) hp
    refine ⟨.tuple ds, .tup (st_of (by rw [rm_at np]; exact upd_same)) (dpa_mono (rm_ex (Ex.new hp)) h1), ?_⟩
    have := dpa_len h1
    have e5 : rowD (.tuple ds) = (ds.all flatD && decide (ds.length ≤ 5)) := rfl
    rw [e5, h2, decide_eq_true (by omega)]
    rfl)⟩
theorem er_lst {n : Nat} (hf : Up H f) (h : AF K f n ta σ H) (hn : n ≤ 5) : ER K f (tLst ta) σ H := fun H1 e Q q =>
  h H1 e _ fun vs H2 e2 hl hvs => ⟨sz_of (by omega), fun p hp => q _ _ (e2.trans (Ex.new hp)) (by
    obtain ⟨ds, h1, h2⟩ := fvs_dpa hvs
    have np := ne_new hf (e.trans e2) hp
    refine ⟨.list ds, .lst (sq_of (by rw [rm_at np]; exact upd_same)) (dpa_mono (rm_ex (Ex.new hp)) h1), ?_⟩
    have := dpa_len h1
    have e5 : rowD (.list ds) = (ds.all flatD && decide (ds.length ≤ 5)) := rfl
    rw [e5, h2, decide_eq_true (by omega)]
    rfl)⟩
theorem lr_lst {n : Nat} (h : AR K f n ta σ H) (hn : n ≤ 50000) : LR K f n (tLst ta) σ H := fun H1 e Q q =>
  h H1 e _ fun vs H2 e2 hl hvs => ⟨sz_of (by omega), fun p hp => q p vs _ (fresh_back e2 hp) (e2.trans (Ex.new hp)) upd_same hl fun v hv => by
    rw [rm_upd (List.mem_cons_self ..), rm_fresh hp]
    exact hvs v hv⟩
theorem lr_cat {n m : Nat} (ha : LR K f n te σ H) (hb : LR K f m tb σ H) (hn : n + m ≤ 50000) : LR K f (n + m) (tOp rCat te tb) σ H := fun H1 e Q q =>
  ha H1 e _ fun p vs H2 hp e2 h2 hl hvs => hb H2 (e.trans e2) _ fun p' us H3 hp' e3 h3 hl' hus => ⟨p, p', vs, us, rfl, rfl, e3 _ _ h2, h3, sz_of (by omega), fun r hr =>
    q r (vs ++ us) _ (fresh_back (e2.trans e3) hr) ((e2.trans e3).trans (Ex.new hr)) upd_same (by rw [List.length_append]; omega) fun v hv => by
      rw [rm_upd (List.mem_cons_self ..), rm_fresh hr]
      rcases List.mem_append.mp hv with hv | hv
      · exact ((hvs v hv).mono rm_less).mono (rm_ex e3)
      · exact (hus v hv).mono rm_less⟩
/-- [(word, x) for x in a list of flat things] -/
theorem lr_lc {z : Str} {p : Addr} {fs : List V} (hz : PyData.strOk z = true) (hp : σ[1]? = some (some (.ref p))) (hfs : H p = some (.lst fs)) (hv : ∀ v ∈ fs, FV K (rm H f) v) (hn : fs.length ≤ 1000) (hf : Up H f) (hj : 3 < σ.length) :
    LR K f fs.length (tLc (iList K (tVar 1)) (gName 3) tYes (tTup (tCons (tC (.str z)) (tCons (tVar 3) tNil))) [3]) σ H := fun H1 e Q q =>
  ⟨.ref p, hp, p, rfl, ⟨fs, sq_of (e _ _ hfs)⟩, fun D hD => lc_list (K := K) (a := p) (xs := fs) (fun i H' => Ex H1 H' ∧ ∃ acc, H' D = some (.lst acc) ∧ acc.length = i ∧ ∀ v ∈ acc, RowV K (rm H' (D :: f)) v)
    ⟨Ex.new hD, [], upd_same, rfl, fun v h => by cases h⟩
    (fun i H' _ hP => sq_of (hP.1 _ _ (e _ _ hfs)))
    (fun i x H' hx hP => by
      obtain ⟨e2, acc, hacc, hlen, hrows⟩ := hP
      have hxm : x ∈ fs := List.mem_of_getElem? hx
      have up : Up H' (D :: f) := fun g hg => by
        rcases List.mem_cons.mp hg with rfl | hg
        · exact ⟨_, hacc⟩
        · exact (hf.ex (e.trans e2)) g hg
      have fx : FV K (rm H' (D :: f)) x := by
        have h1 := (hv x hxm).mono (rm_ex e)
        rw [← rm_fresh (f := D) hD] at h1
        exact h1.mono (rm_ex e2)
      refine ⟨by simp [wipe], tYesP ?_⟩
      refine er_tup (K := K) (f := D :: f) (n := 2) (H := H') up (af_cons (ef_c (d := .str z) hz) (af_cons (ef_var (v := x) (by simp [hj, wipe]) fx) af_nil)) (by decide) H' (Ex.refl H') _ fun t H2 e3 hrow => ?_
      refine ⟨acc, e3 _ _ hacc, sz_lt (by have := (List.getElem?_eq_some_iff.mp hx).1; omega), Ex.mut (e2.trans e3) hD, acc ++ [t], upd_same, by rw [List.length_append, hlen]; rfl, ?_⟩
      rw [rm_upd (List.mem_cons_self ..)]
      intro v hv'
      rcases List.mem_append.mp hv' with hv' | hv'
      · exact (hrows v hv').mono (rm_ex e3)
      · rw [List.mem_singleton.mp hv']
        exact hrow)
    fun H' hP => by
      obtain ⟨e2, acc, hacc, hlen, hrows⟩ := hP
      exact q D acc H' hD e2 hacc hlen hrows⟩
end
def spBounds (K : PySem.W.Frag) : Sp := fun vs H Q _ => ∃ k : Int, vs = [.int k] ∧ -1000 ≤ k ∧ k ≤ 1000 ∧ ∀ p xs H', Ex H H' → H' p = some (.lst xs) → xs.length ≤ 1000 → (∀ v ∈ xs, RowV K H' v) → Q (.ref p) H'
section
variable {P : Program} {w : World} {K : PySem.W.Frag} {mg : Str → Option Value} {base : Heap}
theorem ok__law_bounds (T : Tp w K mg) : FnOk P w K mg base CX0 1 T.f__law_bounds T.d__law_bounds ["_law_size"] (spBounds K) := by
  refine T.F__law_bounds.ok sc__law_bounds (fun vs H Q E h => ?_) (fun cdv A outer s H vs Q E hr h => ?_)
  · obtain ⟨k, rfl, _⟩ := h
    rfl
  obtain ⟨k, rfl, k0, k1, q⟩ := h
  refine ⟨_, (pss_cons (ps_set (i := 1) sc__law_bounds.nd rfl (Or.inl rfl) (pe_lst (pa_cons pe_non (pa_cons pe_int (pa_cons pe_int (pa_cons (pe_un un_neg pe_int) (pa_cons pe_int (pa_cons pe_int (pa_cons (pe_op op_sub (pv 0) pe_int) (pa_cons (pv 0) (pa_cons pe_bl (pa_cons pe_bl (pa_cons pe_str (pa_cons (pe_tup pa_nil) (pa_cons pe_int (pa_cons (pe_un un_neg pe_int) pa_nil (star1 rfl)) (star1 rfl)) (star1 rfl)) (star1 rfl)) (star1 rfl)) (star1 rfl)) (star1 rfl)) (star1 rfl)) (star1 rfl)) (star1 rfl)) (star1 rfl)) (star1 rfl)) (star1 rfl)) (star1 rfl))))
  (pss_cons (ps_set (i := 2) sc__law_bounds.nd rfl (Or.inl rfl) (pe_op op_cat (pe_op op_cat (pe_lc (own := [("_law_one", 3)]) (g := gName 3) (tt := tYes) rfl sc__law_bounds.nd (pi_list (pv 1)) (blkOk_by (N := N__law_bounds) (sc := defScope s__law_bounds) (by decide +kernel)) (fun _ _ _ _ _ => (pg_name (i := 3) sc__law_bounds.nd rfl (Or.inl rfl))) (fun _ _ _ _ _ => pts_nil) (fun _ _ _ _ _ => (pe_tup (pa_cons pe_str (pa_cons (pv 3) pa_nil (star1 rfl)) (star1 rfl))))) (pe_lc (own := [("_law_one", 3)]) (g := gName 3) (tt := tYes) rfl sc__law_bounds.nd (pi_list (pv 1)) (blkOk_by (N := N__law_bounds) (sc := defScope s__law_bounds) (by decide +kernel)) (fun _ _ _ _ _ => (pg_name (i := 3) sc__law_bounds.nd rfl (Or.inl rfl))) (fun _ _ _ _ _ => pts_nil) (fun _ _ _ _ _ => (pe_tup (pa_cons pe_str (pa_cons (pv 3) pa_nil (star1 rfl)) (star1 rfl)))))) (pe_lc (own := [("_law_one", 3)]) (g := gName 3) (tt := tYes) rfl sc__law_bounds.nd (pi_list (pv 1)) (blkOk_by (N := N__law_bounds) (sc := defScope s__law_bounds) (by decide +kernel)) (fun _ _ _ _ _ => (pg_name (i := 3) sc__law_bounds.nd rfl (Or.inl rfl))) (fun _ _ _ _ _ => pts_nil) (fun _ _ _ _ _ => (pe_tup (pa_cons pe_str (pa_cons (pv 3) pa_nil (star1 rfl)) (star1 rfl)))))))
  (pss_cons (ps_for PassesOwn.never rfl (pi_list (pv 1)) (pg_name (i := 3) sc__law_bounds.nd rfl (Or.inl rfl)) (pss_one (ps_expr (pe_bm PySem.F.plainAttrs_list PySem.F.slot_list_extend PySem.F.type_list_extend mt_extend (pv 2) (pa_cons (pe_lst (pa_cons (pe_tup (pa_cons pe_str (pa_cons (pv 3) (pa_cons pe_int pa_nil (star1 rfl)) (star1 rfl)) (star1 rfl))) (pa_cons (pe_tup (pa_cons pe_str (pa_cons pe_int (pa_cons (pv 3) pa_nil (star1 rfl)) (star1 rfl)) (star1 rfl))) (pa_cons (pe_tup (pa_cons pe_str (pa_cons (pv 3) pa_nil (star1 rfl)) (star1 rfl))) (pa_cons (pe_tup (pa_cons pe_str (pa_cons (pv 3) pa_nil (star1 rfl)) (star1 rfl))) (pa_cons (pe_tup (pa_cons pe_str (pa_cons (pv 3) pa_nil (star1 rfl)) (star1 rfl))) pa_nil (star1 rfl)) (star1 rfl)) (star1 rfl)) (star1 rfl)) (star1 rfl))) pa_nil (star1 rfl))))))
  (pss_one (ps_ret (pe_op op_cat (pv 2) (pe_lst (pa_cons (pe_tup (pa_cons pe_str pa_nil (star1 rfl))) (pa_cons (pe_tup (pa_cons pe_str pa_nil (star1 rfl))) (pa_cons (pe_tup (pa_cons pe_str pa_nil (star1 rfl))) (pa_cons (pe_tup (pa_cons pe_str pa_nil (star1 rfl))) (pa_cons (pe_tup (pa_cons pe_str (pa_cons pe_int pa_nil (star1 rfl)) (star1 rfl))) (pa_cons (pe_tup (pa_cons pe_str (pa_cons pe_int (pa_cons pe_int (pa_cons pe_int pa_nil (star1 rfl)) (star1 rfl)) (star1 rfl)) (star1 rfl))) (pa_cons (pe_tup (pa_cons pe_str pa_nil (star1 rfl))) (pa_cons (pe_tup (pa_cons pe_str pa_nil (star1 rfl))) (pa_cons (pe_tup pa_nil) (pa_cons (pe_lst (pa_cons pe_str pa_nil (star1 rfl))) pa_nil (star1 rfl)) (star1 rfl)) (star1 rfl)) (star1 rfl)) (star1 rfl)) (star1 rfl)) (star1 rfl)) (star1 rfl)) (star1 rfl)) (star1 rfl))))))))), ?_⟩
  refine q_asgP ?_
  refine ⟨1, rfl, _, rfl, _, _, rfl, rfl, _, rfl, (by show 0 ≤ sizeLine; decide), fun e he => ⟨999999999, rfl, (by show 14 ≤ sizeLine; decide), fun p hp => ?_⟩⟩
  have ee : Ex H (upd H e (.tup [])) := Ex.new he
  obtain ⟨fs, hfs, hlen, hfv⟩ : ∃ fs, fs = [V.non, .int 0, .int 1, .int (-1), .int 99, .int 100, .int (k - 1), .int k, .bl true, .bl false, .str "0", .ref e, .int 999999999, .int (-999999999)] ∧ fs.length = 14 ∧ ∀ v ∈ fs, FV K (upd H e (.tup [])) v := by
    refine ⟨_, rfl, rfl, ?_⟩
    have fi : ∀ i : Int, -1000000000000 ≤ i → i < 1000000000000 → FV K (upd H e (.tup [])) (.int i) := fun i h1 h2 => ⟨.int i, .int i, by
      simp only [flatD, flat0, Bool.and_eq_true, decide_eq_true_eq]
      exact ⟨h1, h2⟩⟩
    intro v hv
    simp only [List.mem_cons, List.not_mem_nil, or_false] at hv
    rcases hv with h | h | h | h | h | h | h | h | h | h | h | h | h | h <;> rw [h]
    · exact ⟨.none, .non, rfl⟩
    · exact fi _ (by decide) (by decide)
    · exact fi _ (by decide) (by decide)
    · exact fi _ (by decide) (by decide)
    · exact fi _ (by decide) (by decide)
    · exact fi _ (by decide) (by decide)
    · exact fi _ (by omega) (by omega)
    · exact fi _ (by omega) (by omega)
    · exact ⟨.bool true, .bl true, rfl⟩
    · exact ⟨.bool false, .bl false, rfl⟩
    · exact ⟨.str "0", .str "0", by decide +kernel⟩
    · exact ⟨.tuple [], .tup (st_of upd_same) .nil, rfl⟩
    · exact fi _ (by decide) (by decide)
    · exact fi _ (by decide) (by decide)
  rw [← hfs]
  clear hfs
  generalize hH : upd (upd H e (.tup [])) p (.lst fs) = H2
  have e2 : Ex H H2 := by rw [← hH]; exact ee.trans (Ex.new hp)
  have hp2 : H2 p = some (.lst fs) := by rw [← hH]; exact upd_same
  have hv2 : ∀ v ∈ fs, FV K (rm H2 []) v := fun v hv => by
    have : Ex (upd H e (.tup [])) (rm H2 []) := fun a o h => by
      rw [rm_at (by simp), ← hH]
      exact Ex.new hp a o h
    exact (hfv v hv).mono this
  have u0 : Up H2 [] := fun f hf => by cases hf
  refine q_asgP ?_
  have c1 : LR K [] (14 + 14 + 14) _ ((start N__law_bounds [.int k]).set 1 (some (.ref p))) H2 := lr_cat (lr_cat (hlen ▸ lr_lc (f := []) (z := "take") (fs := fs) (by decide +kernel) rfl hp2 hv2 (by omega) u0 (by show 3 < 4; decide)) (hlen ▸ lr_lc (f := []) (z := "say") (fs := fs) (by decide +kernel) rfl hp2 hv2 (by omega) u0 (by show 3 < 4; decide)) (by decide)) (hlen ▸ lr_lc (f := []) (z := "goto") (fs := fs) (by decide +kernel) rfl hp2 hv2 (by omega) u0 (by show 3 < 4; decide)) (by decide)
  refine c1 H2 (Ex.refl H2) _ fun g vs H3 hg e3 hg3 hl3 hr3 => ?_
  have fv : ∀ {H' : Hp}, Ex H2 H' → ∀ v ∈ fs, FV K (rm H' [g]) v := fun e v hv => by
    have h1 := hv2 v hv
    rw [← rm_fresh (f := g) hg] at h1
    exact h1.mono (rm_ex e)
  refine q_forLn (K := K) (a := p) (xs := fs) (ev_var rfl) (sq_of (e3 _ _ hp2)) (fun i σ' H' => Ex H2 H' ∧ ∃ xs c, σ' = [some (.int k), some (.ref p), some (.ref g), c] ∧ H' g = some (.lst xs) ∧ xs.length = 42 + 5 * i ∧ (∀ v ∈ xs, RowV K (rm H' [g]) v)) ?_ ?_ ?_ ?_
  · intro H4 e4
    exact ⟨e3.trans e4, vs, none, rfl, e4 _ _ hg3, hl3, fun v hv => (hr3 v hv).mono (rm_ex e4)⟩
  · intro i σ' H' _ hP
    exact sq_of (hP.1 _ _ hp2)
  · intro i x σ' H' hx hP
    obtain ⟨e4, xs, c, rfl, hg4, hl4, hr4⟩ := hP
    have up : Up H' [g] := fun f hf => by
      rw [List.mem_singleton.mp hf]
      exact ⟨_, hg4⟩
    have fx := fv e4 x (List.mem_of_getElem? hx)
    have hi := (List.getElem?_eq_some_iff.mp hx).1
    have vx : EF K [g] (tVar 3) [some (.int k), some (.ref p), some (.ref g), some x] H' := ef_var rfl fx
    have wd : ∀ z : Str, PyData.strOk z = true → EF K [g] (tC (.str z)) [some (.int k), some (.ref p), some (.ref g), some x] H' := fun z hz => ef_c (d := .str z) hz
    have n0 : EF K [g] (tC (.int 0)) [some (.int k), some (.ref p), some (.ref g), some x] H' := ef_c (d := .int 0) (by decide)
    refine ⟨.ref g, rfl, Or.inl ⟨rfl, xs, sq_of hg4⟩, ?_⟩
    refine lr_lst (ar_cons (er_tup up (af_cons (wd "if" (by decide +kernel)) (af_cons vx (af_cons n0 af_nil))) (by decide)) (ar_cons (er_tup up (af_cons (wd "if" (by decide +kernel)) (af_cons n0 (af_cons vx af_nil))) (by decide)) (ar_cons (er_tup up (af_cons (wd "let" (by decide +kernel)) (af_cons vx af_nil)) (by decide)) (ar_cons (er_tup up (af_cons (wd "try" (by decide +kernel)) (af_cons vx af_nil)) (by decide)) (ar_cons (er_tup up (af_cons (wd "end" (by decide +kernel)) (af_cons vx af_nil)) (by decide)) ar_nil))))) (by decide) H' (Ex.refl H') _ fun b zs H5 hb e5 hb5 hl5 hz5 => ?_
    refine ⟨g, b, xs, zs, rfl, rfl, e5 _ _ hg4, hb5, sz_of (by omega), ?_⟩
    refine ⟨Ex.mut (e4.trans e5) hg, xs ++ zs, some x, rfl, upd_same, by rw [List.length_append]; omega, ?_⟩
    rw [rm_upd (List.mem_cons_self ..)]
    intro v hv
    rcases List.mem_append.mp hv with hv | hv
    · exact (hr4 v hv).mono (rm_ex e5)
    · exact (hz5 v hv).mono rm_less
  · intro σ' H' hP
    obtain ⟨e4, xs, c, rfl, hg4, hl4, hr4⟩ := hP
    have up : Up H' [g] := fun f hf => by
      rw [List.mem_singleton.mp hf]
      exact ⟨_, hg4⟩
    have wd : ∀ z : Str, PyData.strOk z = true → EF K [g] (tC (.str z)) [some (.int k), some (.ref p), some (.ref g), c] H' := fun z hz => ef_c (d := .str z) hz
    have n0 : EF K [g] (tC (.int 0)) [some (.int k), some (.ref p), some (.ref g), c] H' := ef_c (d := .int 0) (by decide)
    have w1 : ∀ z : Str, PyData.strOk z = true → ER K [g] (tTup (tCons (tC (.str z)) tNil)) [some (.int k), some (.ref p), some (.ref g), c] H' := fun z hz => er_tup up (af_cons (wd z hz) af_nil) (by decide)
    refine s_retP ?_
    refine ⟨.ref g, rfl, ?_⟩
    refine lr_lst (ar_cons (w1 "let" (by decide +kernel)) (ar_cons (w1 "try" (by decide +kernel)) (ar_cons (w1 "take" (by decide +kernel)) (ar_cons (w1 "goto" (by decide +kernel)) (ar_cons (er_tup up (af_cons (wd "if" (by decide +kernel)) (af_cons n0 af_nil)) (by decide)) (ar_cons (er_tup up (af_cons (wd "if" (by decide +kernel)) (af_cons n0 (af_cons n0 (af_cons n0 af_nil)))) (by decide)) (ar_cons (w1 "lets" (by decide +kernel)) (ar_cons (w1 "" (by decide +kernel)) (ar_cons (er_tup up af_nil (by decide)) (ar_cons (er_lst up (af_cons (wd "let" (by decide +kernel)) af_nil) (by decide)) ar_nil)))))))))) (by decide) H' (Ex.refl H') _ fun b zs H5 hb e5 hb5 hl5 hz5 => ?_
    refine ⟨g, b, xs, zs, rfl, rfl, e5 _ _ hg4, hb5, sz_of (by omega), fun r hr => ?_⟩
    refine q r (xs ++ zs) _ (((e2.trans e4).trans e5).trans (Ex.new hr)) upd_same (by rw [List.length_append]; omega) ?_
    intro v hv
    rcases List.mem_append.mp hv with hv | hv
    · exact (hr4 v hv).mono (((rm_sub _ _).trans e5).trans (Ex.new hr))
    · exact (hz5 v hv).mono ((rm_sub _ _).trans (Ex.new hr))
end

/-! ### tuples cut and joined -/
section
variable {K : PySem.W.Frag} {σ : L2.St} {H : Hp} {te tb : TE} {tl th : TO}
/-- evaluates to a tuple, a new one or one that stood there -/
def EvP (te : TE) (σ : L2.St) (H : Hp) (xs : List V) : Prop := ∀ H1, Ex H H1 → ∀ Q : VK, (∀ p H2, Ex H1 H2 → H2 p = some (.tup xs) → Q (.ref p) H2) → te σ H1 Q
theorem ep_var {i : Nat} {p : Addr} {xs : List V} (h : σ[i]? = some (some (.ref p))) (hp : H p = some (.tup xs)) : EvP (tVar i) σ H xs := fun H1 e Q q => ⟨.ref p, h, q p H1 (Ex.refl H1) (e _ _ hp)⟩
theorem ep_new {ta : TA} {xs : List V} (h : EvU (tTup ta) σ H xs) : EvP (tTup ta) σ H xs := fun H1 e Q q => h H1 e Q fun p H2 _ e2 h2 => q p H2 e2 h2
theorem ep_cat {xs ys : List V} (ha : EvP te σ H xs) (hb : EvP tb σ H ys) (hz : xs.length + ys.length ≤ 100000) : EvP (tOp (rCatA K) te tb) σ H (xs ++ ys) := fun H1 e Q q =>
  ha H1 e _ fun p H2 e2 h2 => hb H2 (e.trans e2) _ fun p' H3 e3 h3 => ⟨p, p', xs, ys, rfl, rfl, st_of (e3 _ _ h2), st_of h3, sz_of hz, fun z => by
    subst z
    exact q p' H3 (e2.trans e3) h3, fun _ z => by
    subst z
    rw [List.append_nil] at q
    exact q p H3 (e2.trans e3) (e3 _ _ h2), fun _ _ r hr => q r _ ((e2.trans e3).trans (Ex.new hr)) upd_same⟩
def EvPt (to : TO) (σ : L2.St) (H : Hp) (o : Option Int) : Prop := ∀ H1, Ex H H1 → ∀ Q : Option Int → Hp → Prop, (∀ H2, Ex H1 H2 → Q o H2) → to σ H1 Q
theorem pt_no : EvPt tNoPart σ H none := fun H1 _ Q q => q H1 (Ex.refl H1)
theorem pt_so {n : Int} (h : Ev te σ H (.int n)) : EvPt (tPart te) σ H (some n) := fun H1 e Q q => h H1 e _ fun H2 e2 => ⟨n, rfl, q H2 e2⟩
theorem ep_sl {xs : List V} {lo hi : Option Int} (ha : EvP te σ H xs) (hl : EvPt tl σ H lo) (hh : EvPt th σ H hi) : EvP (tSl (rSlA K) te tl th) σ H (cutV xs lo hi) := fun H1 e Q q =>
  ha H1 e _ fun p H2 e2 h2 => hl H2 (e.trans e2) _ fun H3 e3 => hh H3 ((e.trans e2).trans e3) _ fun H4 e4 => ⟨p, xs, rfl, st_of (e4 _ _ (e3 _ _ h2)), fun w => by
    have c : cutV xs lo hi = xs := by
      unfold cutV
      rw [w.1, w.2]
      simp
    rw [c] at q
    exact q p H4 ((e2.trans e3).trans e4) (e4 _ _ (e3 _ _ h2)), fun _ r hr => q r _ (((e2.trans e3).trans e4).trans (Ex.new hr)) upd_same⟩
theorem cut_mem {xs : List V} {lo hi : Option Int} {v : V} (h : v ∈ cutV xs lo hi) : v ∈ xs := by
  unfold cutV at h
  exact List.mem_of_mem_drop (List.mem_of_mem_take h)
theorem q_forNTn {xs : List V} {tl : TE} {j : Nat} {tu tz : TS} {D : Ends} (h : EvU tl σ H xs) (Pv : Addr → Nat → L2.St → Hp → Prop) (h0 : ∀ p H1, H p = none → Ex H H1 → H1 p = some (.tup xs) → Pv p 0 σ H1) (hl : ∀ p i σ' H', i ≤ xs.length → Pv p i σ' H' → SqT K H' p xs)
    (hs : ∀ p i x σ' H', xs[i]? = some x → Pv p i σ' H' → tu { D with nx := Pv p (i + 1), ct := Pv p (i + 1), bk := tz D } (σ'.set j (some x)) H') (hd : ∀ p σ' H', Pv p xs.length σ' H' → tz D σ' H') : tSeq (tFor (iTup K tl) (gName j) tu) tz D σ H :=
  h H (Ex.refl H) _ fun p H1 hp e h1 => ⟨p, rfl, ⟨xs, st_of h1⟩, for_tup (Pv p) (h0 p H1 hp e h1) (hl p) (hs p) (hd p)⟩
end
theorem drawn_all {K : PySem.W.Frag} {H : Hp} {k : Int} : ∀ {xs : List V}, (∀ v ∈ xs, Drawn H v k) → ∃ ds, DpAll K H xs ds ∧ (∀ d ∈ ds, rowFits d k = true ∧ rowD d = true)
  | [], _ => ⟨[], .nil, fun d h => by cases h⟩
  | v :: vs, h => by
    obtain ⟨a, es, rfl, ha, hf, hr, hl⟩ := h v (List.mem_cons_self ..)
    obtain ⟨ds, h3, h4⟩ := drawn_all (fun u hu => h u (List.mem_cons_of_mem _ hu))
    refine ⟨.tuple es :: ds, .cons (.tup (st_of ha) (dpa_flat hf)) h3, fun d hd => ?_⟩
    rcases List.mem_cons.mp hd with rfl | hd
    · refine ⟨hr, ?_⟩
      have e5 : rowD (.tuple es) = (es.all flatD && decide (es.length ≤ 5)) := rfl
      have e6 : es.all flatD = true := by
        rw [List.all_eq_true] at hf ⊢
        exact fun x hx => flat0_D (hf x hx)
      rw [e5, e6, decide_eq_true (by omega)]
      rfl
    · exact h4 d hd
theorem rowv_all {K : PySem.W.Frag} {H : Hp} : ∀ {xs : List V}, (∀ v ∈ xs, RowV K H v) → ∃ ds, DpAll K H xs ds ∧ (∀ d ∈ ds, rowD d = true)
  | [], _ => ⟨[], .nil, fun d h => by cases h⟩
  | v :: vs, h => by
    obtain ⟨d, h1, h2⟩ := h v (List.mem_cons_self ..)
    obtain ⟨ds, h3, h4⟩ := rowv_all (fun u hu => h u (List.mem_cons_of_mem _ hu))
    refine ⟨d :: ds, .cons h1 h3, fun e he => ?_⟩
    rcases List.mem_cons.mp he with rfl | he
    · exact h2
    · exact h4 e he
theorem rowD_small {ds : List PyData} (h : ∀ d ∈ ds, rowD d = true) (hz : ds.length ≤ 40000) : rowsSmall (.tuple ds) := by
  refine ⟨hz, fun d hd es e => ?_⟩
  subst e
  have h1 := h _ hd
  have e5 : rowD (.tuple es) = (es.all flatD && decide (es.length ≤ 5)) := rfl
  rw [e5, Bool.and_eq_true] at h1
  have := of_decide_eq_true h1.2
  omega
theorem Drawn.row {K : PySem.W.Frag} {H : Hp} {v : V} {k : Int} (h : Drawn H v k) : RowV K H v := by
  obtain ⟨ds, h1, h2⟩ := drawn_all (K := K) (xs := [v]) (fun u hu => by rw [List.mem_singleton.mp hu]; exact h)
  cases h1 with
  | cons a b => exact ⟨_, a, (h2 _ (List.mem_cons_self ..)).2⟩
theorem Drawn.ex {H H' : Hp} {v : V} {k : Int} (e : Ex H H') (d : Drawn H v k) : Drawn H' v k := by
  obtain ⟨a, ds, rfl, ha, r⟩ := d
  exact ⟨a, ds, rfl, e _ _ ha, r⟩
def spLaw (K : PySem.W.Frag) : Sp := fun vs H Q _ => ∃ (a : Addr) (ns : List Int), vs = [.ref a] ∧ SqL K H a (ns.map V.int) ∧ ns.length ≤ 63 ∧ ∀ H', Q (.bl true) H'
section
variable {P : Program} {w : World} {K : PySem.W.Frag} {mg : Str → Option Value} {base : Heap}
theorem ok_law (T : Tp w K mg) : FnOk P w K mg base CX0 7 T.f_law T.d_law ["_law_script"] (spLaw K) := by
  refine T.F_law.ok sc_law (fun vs H Q E h => ?_) (fun cdv A outer s H vs Q E hr h => ?_)
  · obtain ⟨a, ns, rfl, _⟩ := h
    rfl
  obtain ⟨a, ns, rfl, hS, h63, q⟩ := h
  refine ⟨_, (pss_cons (ps_set (i := 1) sc_law.nd rfl (Or.inl rfl) (pe_call (ok__law_hand T) (hr.mono (by decide)) rfl T.m__law_hand T.F__law_hand.kp (b__law_hand T) .nil pass0 (pa_cons (pv 0) pa_nil (star1 rfl)) (by decide) (star1 rfl) (starAll rfl)))
  (pss_cons (ps_for PassesOwn.never rfl (pi_tup (pe_tup (pa_cons pe_int (pa_cons pe_int (pa_cons pe_int pa_nil (star1 rfl)) (star1 rfl)) (star1 rfl)))) (pg_name (i := 2) sc_law.nd rfl (Or.inl rfl)) (pss_cons (ps_set (i := 3) sc_law.nd rfl (Or.inl rfl) (pe_call (ok__law_program T) (hr.mono (by decide)) rfl T.m__law_program T.F__law_program.kp (b__law_program T) .nil pass0 (pa_cons (pv 1) (pa_cons (pv 2) pa_nil (star1 rfl)) (star1 rfl)) (by decide) (star1 rfl) (starAll rfl)))
  (pss_cons (ps_if (PW.pt (pw_or (pt_cmpR op_notBl (pe_call (ok_is_program T) (hr.mono (by decide)) rfl T.m_is_program T.F_is_program.kp (b_is_program T) .nil pass0 (pa_cons (pv 3) pa_nil (star1 rfl)) (by decide) (star1 rfl) (starAll rfl)) pe_bl (nomark _)) (pw_or1 (pt_not (pt_val (pe_call (ok__law_is_program T) (hr.mono (by decide)) rfl T.m__law_is_program T.F__law_is_program.kp (b__law_is_program T) .nil pass0 (pa_cons (pv 3) pa_nil (star1 rfl)) (by decide) (star1 rfl) (starAll rfl))))))) (pss_one (ps_ret pe_bl)) pss_nil)
  (pss_cons (ps_set (i := 4) sc_law.nd rfl (Or.inl rfl) (pe_call (ok__law_pick T) (hr.mono (by decide)) rfl T.m__law_pick T.F__law_pick.kp (b__law_pick T) .nil pass0 (pa_cons (pv 1) (pa_cons (pe_op op_add (pe_callB (lenK (K := K) rfl) rfl T.z_len PySem.boot_len (pa_cons (pv 3) pa_nil (star1 rfl)) (by decide) (by decide) (star1 rfl) (starAll rfl)) pe_int) pa_nil (star1 rfl)) (star1 rfl)) (by decide) (star1 rfl) (starAll rfl)))
  (pss_one (ps_for PassesOwn.never rfl (pi_list (pe_call (ok__law_bounds T) (hr.mono (by decide)) rfl T.m__law_bounds T.F__law_bounds.kp (b__law_bounds T) .nil pass0 (pa_cons (pe_callB (call_min2 rfl) rfl T.z_min (by decide +kernel) (pa_cons pe_int (pa_cons (pe_op op_add (pe_callB (lenK (K := K) rfl) rfl T.z_len PySem.boot_len (pa_cons (pv 3) pa_nil (star1 rfl)) (by decide) (by decide) (star1 rfl) (starAll rfl)) pe_int) pa_nil (star1 rfl)) (star1 rfl)) (by decide) (by decide) (star1 rfl) (starAll rfl)) pa_nil (star1 rfl)) (by decide) (star1 rfl) (starAll rfl))) (pg_name (i := 5) sc_law.nd rfl (Or.inl rfl)) (pss_cons (ps_set (i := 6) sc_law.nd rfl (Or.inl rfl) (pe_slice (slAK (K := K) rfl) (pe_op (catAK (K := K) rfl) (pe_op (catAK (K := K) rfl) (pe_slice (slAK (K := K) rfl) (pv 3) po_none (po_some (pv 4))) (pe_tup (pa_cons (pv 5) pa_nil (star1 rfl)))) (pe_slice (slAK (K := K) rfl) (pv 3) (po_some (pv 4)) po_none)) po_none (po_some pe_int)))
  (pss_cons (ps_set (i := 7) sc_law.nd rfl (Or.inl rfl) (pe_call (ok_is_program T) (hr.mono (by decide)) rfl T.m_is_program T.F_is_program.kp (b_is_program T) .nil pass0 (pa_cons (pv 6) pa_nil (star1 rfl)) (by decide) (star1 rfl) (starAll rfl)))
  (pss_one (ps_if (PW.pt (pw_or (pt_not (pt_val (pe_callB (isiK (K := K) rfl) rfl T.z_isinstance (by decide +kernel) (pa_cons (pv 7) (pa_cons (pe_bltn (v := .ty "bool") rfl T.z_bool (by decide +kernel) rfl) pa_nil (star1 rfl)) (star1 rfl)) (by decide) (by decide) (star1 rfl) (starAll rfl)))) (pw_or1 (pt_cmpR op_ne (pv 7) (pe_call (ok__law_is_program T) (hr.mono (by decide)) rfl T.m__law_is_program T.F__law_is_program.kp (b__law_is_program T) .nil pass0 (pa_cons (pv 6) pa_nil (star1 rfl)) (by decide) (star1 rfl) (starAll rfl)) (nomark _))))) (pss_one (ps_ret pe_bl)) pss_nil))))))))))
  (pss_one (ps_ret (pe_cmpR op_isBl (pe_call (ok_is_program T) (hr.mono (by decide)) rfl T.m_is_program T.F_is_program.kp (b_is_program T) .nil pass0 (pa_cons (pe_tup pa_nil) pa_nil (star1 rfl)) (by decide) (star1 rfl) (starAll rfl)) pe_bl (nomark _)))))), ?_⟩
  refine q_asgP ?_
  refine ⟨_, rfl, a, ns, rfl, hS, h63, fun h l H1 e1 hh hl A1 => ?_⟩
  refine q_forNTn (K := K) (xs := [.int 4, .int 12, .int 40]) (eu_tup (ea_cons ev_c (ea_cons ev_c (ea_cons ev_c ea_nil))) (by decide)) (fun p i σ' H' => H' p = some (.tup [.int 4, .int 12, .int 40]) ∧ Hand H' h l ∧ ∃ c2 c3 c4 c5 c6 c7, σ' = [some (.ref a), some (.ref h), c2, c3, c4, c5, c6, c7]) ?_ ?_ ?_ ?_
  · intro p H2 hp e2 h2
    exact ⟨h2, A1.ex e2, none, none, none, none, none, none, rfl⟩
  · intro p i σ' H' _ hP
    exact st_of hP.1
  · intro p i x σ' H2 hx hP
    obtain ⟨hp2, A2, c2, c3, c4, c5, c6, c7, rfl⟩ := hP
    obtain ⟨n, rfl, n0, n1⟩ : ∃ n : Int, x = .int n ∧ 0 ≤ n ∧ n ≤ 40 := by
      have := List.mem_of_getElem? hx
      simp only [List.mem_cons, List.not_mem_nil, or_false] at this
      rcases this with h | h | h
      · exact ⟨4, h, by decide, by decide⟩
      · exact ⟨12, h, by decide, by decide⟩
      · exact ⟨40, h, by decide, by decide⟩
    refine q_asgP ?_
    refine ⟨_, rfl, _, rfl, h, l, n, rfl, A2, n0, by omega, fun pa xs H3 hpa hlen hdr A3 kp3 => ?_⟩
    have hp3 := kp_tup A2 kp3 hp2
    obtain ⟨ds, hd3, hds⟩ := drawn_all (K := K) hdr
    have hdl := dpa_len hd3
    have pf : progFits (.tuple ds) = true := by
      unfold progFits
      rw [List.all_eq_true]
      intro d hd
      rw [← hdl]
      exact (hds d hd).1
    have rs : rowsSmall (.tuple ds) := rowD_small (fun d hd => (hds d hd).2) (by omega)
    refine q_when (b := false) (et_is (et_or (et_test (ev_op (ev_call (ea_cons (ev_var rfl) ea_nil) fun H4 e4 Q' q' E' => ⟨.ref pa, .tuple ds, rfl, .tup (st_of (e4 _ _ hpa)) (dpa_mono e4 hd3), rs, q'⟩) ev_c fun H4 e4 Q' q' => ⟨progFits (.tuple ds), true, rfl, rfl, q' H4 (Ex.refl H4)⟩))
      fun _ => et_not (et_B (ev_call (ea_cons (ev_var rfl) ea_nil) fun H4 e4 Q' q' E' => ⟨pa, xs, ds, rfl, st_of (e4 _ _ hpa), dpa_mono e4 hd3, by omega, fun d hd => (hds d hd).2, q'⟩))) (by rw [pf]; rfl)) (fun hb => by cases hb) (fun _ H4 e4 => ?_)
    have A4 := A3.ex e4
    have hpa4 := e4 _ _ hpa
    refine q_asgP ?_
    refine ⟨_, rfl, _, rfl, pa, xs, rfl, Or.inr (st_of hpa4), _, _, rfl, rfl, h, l, (xs.length : Int) + 1, rfl, A4, by omega, by omega, fun at' H5 a0 a1 A5 kp5 => ?_⟩
    have hpa5 := kp_tup A4 kp5 hpa4
    have hp5 := kp_tup A4 kp5 (e4 _ _ hp3)
    have dr5 : ∀ v ∈ xs, Drawn H5 v xs.length := fun v hv => ((hdr v hv).ex e4).kp A4 kp5
    unfold tFor iList
    · refine ⟨_, rfl, pa, xs, rfl, Or.inr (st_of hpa5), _, _, rfl, rfl, 40, (xs.length : Int) + 1, rfl, _, rfl, by split <;> omega, by split <;> omega, fun b rows H6 e6 hb6 hrl hrv => ?_⟩
      refine ⟨b, rfl, ⟨rows, sq_of hb6⟩, for_list (K := K) (a := b) (xs := rows) (fun i σ' H' => Ex H6 H' ∧ ∃ c5 c6 c7, σ' = [some (.ref a), some (.ref h), some (.int n), some (.ref pa), some (.int at'), c5, c6, c7]) ⟨Ex.refl H6, c5, c6, c7, rfl⟩ (fun i σ' H' _ hP => sq_of (hP.1 _ _ hb6)) ?_ ?_⟩
      · intro i x σ' H7 hx hP
        obtain ⟨e7, d5, d6, d7, rfl⟩ := hP
        have hpa7 := (e6.trans e7) _ _ hpa5
        have rx : RowV K H7 x := (hrv x (List.mem_of_getElem? hx)).mono e7
        have rxs : ∀ v ∈ xs, RowV K H7 v := fun v hv => ((dr5 v hv).ex (e6.trans e7)).row
        refine q_asgP ?_
        refine ep_sl (K := K) (ep_cat (ep_cat (ep_sl (ep_var rfl hpa7) pt_no (pt_so (ev_var rfl))) (ep_new (eu_tup (ea_cons (ev_var rfl) ea_nil) (by simp))) ?_) (ep_sl (ep_var rfl hpa7) (pt_so (ev_var rfl)) pt_no) ?_) pt_no (pt_so ev_c) H7 (Ex.refl H7) _ fun t H8 e8 ht => ?_
        · have := cutV_length xs none (some at')
          simp only [List.length_singleton]
          omega
        · have h1 := cutV_length xs none (some at')
          have h2 := cutV_length xs (some at') none
          simp only [List.length_append, List.length_singleton]
          omega
        · generalize hzs : cutV (cutV xs none (some at') ++ [x] ++ cutV xs (some at') none) none (some 40) = zs at ht
          have hzl : zs.length ≤ 40000 := by
            have h0 := cutV_length (cutV xs none (some at') ++ [x] ++ cutV xs (some at') none) none (some 40)
            have h1 := cutV_length xs none (some at')
            have h2 := cutV_length xs (some at') none
            rw [hzs] at h0
            simp only [List.length_append, List.length_singleton] at h0
            omega
          have hzr : ∀ v ∈ zs, RowV K H8 v := fun v hv => by
            rw [← hzs] at hv
            rcases List.mem_append.mp (cut_mem hv) with hv | hv
            · rcases List.mem_append.mp hv with hv | hv
              · exact (rxs v (cut_mem hv)).mono e8
              · rw [List.mem_singleton.mp hv]
                exact rx.mono e8
            · exact (rxs v (cut_mem hv)).mono e8
          obtain ⟨es, hd8, hes⟩ := rowv_all hzr
          have hel := dpa_len hd8
          have rs8 : rowsSmall (.tuple es) := rowD_small hes (by omega)
          refine q_asg (v := .bl (progFits (.tuple es))) (ev_call (ea_cons (ev_var rfl) ea_nil) fun H9 e9 Q' q' E' => ⟨.ref t, .tuple es, rfl, .tup (st_of (e9 _ _ ht)) (dpa_mono e9 hd8), rs8, q'⟩) fun H9 e9 => ?_
          refine s_when (b := false) (et_is (et_or (et_not (et_B (ev_isi (ev_var rfl) (Dp.bl _) (kt_bool (.bool _))))) fun _ => et_test (ev_ne (y := .bl (progFits (.tuple es))) (ev_var rfl) (ev_call (ea_cons (ev_var rfl) ea_nil) fun H10 e10 Q' q' E' => ⟨t, zs, es, rfl, st_of ((e9.trans e10) _ _ ht), dpa_mono (e9.trans e10) hd8, hzl, hes, q'⟩) rfl)) (by rw [decide_eq_true rfl]; rfl)) (fun hb => by cases hb) (fun _ H10 e10 => ?_)
          exact ⟨((e7.trans e8).trans e9).trans e10, _, _, _, rfl⟩
      · intro σ' H' hP
        obtain ⟨e7, d5, d6, d7, rfl⟩ := hP
        exact ⟨(e6.trans e7) _ _ hp5, A5.ex (e6.trans e7), _, _, _, _, _, _, rfl⟩
  · intro p σ' H' hP
    obtain ⟨hp2, A2, c2, c3, c4, c5, c6, c7, rfl⟩ := hP
    refine s_retP ?_
    refine ⟨(by show 0 ≤ sizeLine; decide), fun t ht => ⟨.ref t, .tuple [], rfl, .tup (st_of upd_same) .nil, ⟨by decide, fun d hd => by cases hd⟩, fun H3 e3 => ?_⟩⟩
    exact ⟨true, true, rfl, rfl, q H3⟩
end

/-! ### the table of forms -/
theorem ktab6 {K : PySem.W.Frag} {w : World} {a : Addr} {e1 e2 e3 e4 e5 e6 : DictEntry} {n : Nat} {t1 t2 t3 t4 t5 t6 : Tok} {f1 f2 f3 f4 f5 f6 : Addr} (l : K.lookup a = some ⟨.type "dict", none, .dict #[e1, e2, e3, e4, e5, e6] n, #[]⟩)
    (kl : PySem.W.KeysLit w.params [e1, e2, e3, e4, e5, e6]) (low : (a == sysModules) = false) (k1 : e1.key = .str "take" t1) (k2 : e2.key = .str "try" t2) (k3 : e3.key = .str "let" t3) (k4 : e4.key = .str "say" t4) (k5 : e5.key = .str "goto" t5) (k6 : e6.key = .str "if" t6)
    (v1 : e1.val = .ref f1) (v2 : e2.val = .ref f2) (v3 : e3.val = .ref f3) (v4 : e4.val = .ref f4) (v5 : e5.val = .ref f5) (v6 : e6.val = .ref f6) :
    KTab K w a (fun z => if z = "take" then some (.ref f1) else if z = "try" then some (.ref f2) else if z = "let" then some (.ref f3) else if z = "say" then some (.ref f4) else if z = "goto" then some (.ref f5) else if z = "if" then some (.ref f6) else none) := by
  refine ⟨_, _, l, kl, low, fun z => ?_⟩
  have s : ∀ (x z : Str) (t : Tok), (Value.str x t).isStr z = decide (z = x) := fun x z t => by
    show (x == z) = decide (z = x)
    by_cases h : z = x
    · rw [h, decide_eq_true rfl, beq_self_eq_true]
    · rw [decide_eq_false h]
      exact beq_eq_false_iff_ne.mpr (Ne.symm h)
  unfold PySem.W.nsIn
  rw [l]
  simp only [List.find?_cons, List.find?_nil, k1, k2, k3, k4, k5, k6, s]
  by_cases n1 : z = "take"
  · rw [decide_eq_true n1, if_pos n1]
    show some (some e1.val) = some (some (.ref f1))
    rw [v1]
  by_cases n2 : z = "try"
  · rw [decide_eq_false n1, decide_eq_true n2, if_neg n1, if_pos n2]
    show some (some e2.val) = some (some (.ref f2))
    rw [v2]
  by_cases n3 : z = "let"
  · rw [decide_eq_false n1, decide_eq_false n2, decide_eq_true n3, if_neg n1, if_neg n2, if_pos n3]
    show some (some e3.val) = some (some (.ref f3))
    rw [v3]
  by_cases n4 : z = "say"
  · rw [decide_eq_false n1, decide_eq_false n2, decide_eq_false n3, decide_eq_true n4, if_neg n1, if_neg n2, if_neg n3, if_pos n4]
    show some (some e4.val) = some (some (.ref f4))
    rw [v4]
  by_cases n5 : z = "goto"
  · rw [decide_eq_false n1, decide_eq_false n2, decide_eq_false n3, decide_eq_false n4, decide_eq_true n5, if_neg n1, if_neg n2, if_neg n3, if_neg n4, if_pos n5]
    show some (some e5.val) = some (some (.ref f5))
    rw [v5]
  by_cases n6 : z = "if"
  · rw [decide_eq_false n1, decide_eq_false n2, decide_eq_false n3, decide_eq_false n4, decide_eq_false n5, decide_eq_true n6, if_neg n1, if_neg n2, if_neg n3, if_neg n4, if_neg n5, if_pos n6]
    show some (some e6.val) = some (some (.ref f6))
    rw [v6]
  rw [decide_eq_false n1, decide_eq_false n2, decide_eq_false n3, decide_eq_false n4, decide_eq_false n5, decide_eq_false n6, if_neg n1, if_neg n2, if_neg n3, if_neg n4, if_neg n5, if_neg n6]
  simp only [List.any_cons, List.any_nil, DictEntry.refKey, k1, k2, k3, k4, k5, k6]
  rfl
theorem all_mk {l : PySem.W.OpenLaw} {w : World} {K : PySem.W.Frag} {h : Heap} {mg : Str → Option Value} {fa f0 f1 f2 f3 f4 f5 f6 f7 f8 f9 f10 f11 f12 f13 f14 f15 f16 f17 f18 f19 : Addr} (X : K.In h) (G : h.Ns mainGlobals mg) (hfa : mg "law" = some (.ref fa))
    {od0 an0 od1 an1 od2 an2 od3 an3 od4 an4 od5 an5 od6 an6 od7 an7 od8 an8 od9 an9 od10 an10 od11 an11 od12 an12 od13 an13 od14 an14 od15 an15 od16 an16 od17 an17 od18 an18 od19 an19 : Option Addr} {sl0 sl1 sl2 sl3 sl4 sl5 sl6 sl7 sl8 sl9 sl10 sl11 sl12 sl13 sl14 sl15 sl16 sl17 sl18 sl19 : Array (Option Value)} {oc0 kV0 dc0 pm0 cd0 ct0 oc1 kV1 dc1 pm1 cd1 ct1 oc2 kV2 dc2 pm2 cd2 ct2 oc3 kV3 dc3 pm3 cd3 ct3 oc4 kV4 dc4 pm4 cd4 ct4 oc5 kV5 dc5 pm5 cd5 ct5 oc6 kV6 dc6 pm6 cd6 ct6 oc7 kV7 dc7 pm7 cd7 ct7 oc8 kV8 dc8 pm8 cd8 ct8 oc9 kV9 dc9 pm9 cd9 ct9 oc10 kV10 dc10 pm10 cd10 ct10 oc11 kV11 dc11 pm11 cd11 ct11 oc12 kV12 dc12 pm12 cd12 ct12 oc13 kV13 dc13 pm13 cd13 ct13 oc14 kV14 dc14 pm14 cd14 ct14 oc15 kV15 dc15 pm15 cd15 ct15 oc16 kV16 dc16 pm16 cd16 ct16 oc17 kV17 dc17 pm17 cd17 ct17 oc18 kV18 dc18 pm18 cd18 ct18 oc19 kV19 dc19 pm19 cd19 ct19 : Value}
    (a0 : PySem.W.nsIn K mainGlobals "is_whole" = some (some (.ref f0))) (l0 : K.lookup f0 = some ⟨oc0, od0, .func (PySem.W.fnOf "is_whole" "is_whole" (defArgs s_is_whole) (defBody s_is_whole) (defScope s_is_whole) .none kV0 dc0 pm0 an0 cd0 ct0), sl0⟩) (c0 : PySem.W.codeIn K cd0 "is_whole" = true) (k0 : PySem.W.keepIn K (.ref f0) = true)
    (a1 : PySem.W.nsIn K mainGlobals "is_whole_from" = some (some (.ref f1))) (l1 : K.lookup f1 = some ⟨oc1, od1, .func (PySem.W.fnOf "is_whole_from" "is_whole_from" (defArgs s_is_whole_from) (defBody s_is_whole_from) (defScope s_is_whole_from) .none kV1 dc1 pm1 an1 cd1 ct1), sl1⟩) (c1 : PySem.W.codeIn K cd1 "is_whole_from" = true) (k1 : PySem.W.keepIn K (.ref f1) = true)
    (a2 : PySem.W.nsIn K mainGlobals "is_row_number" = some (some (.ref f2))) (l2 : K.lookup f2 = some ⟨oc2, od2, .func (PySem.W.fnOf "is_row_number" "is_row_number" (defArgs s_is_row_number) (defBody s_is_row_number) (defScope s_is_row_number) .none kV2 dc2 pm2 an2 cd2 ct2), sl2⟩) (c2 : PySem.W.codeIn K cd2 "is_row_number" = true) (k2 : PySem.W.keepIn K (.ref f2) = true)
    (a3 : PySem.W.nsIn K mainGlobals "word_fits" = some (some (.ref f3))) (l3 : K.lookup f3 = some ⟨oc3, od3, .func (PySem.W.fnOf "word_fits" "word_fits" (defArgs s_word_fits) (defBody s_word_fits) (defScope s_word_fits) .none kV3 dc3 pm3 an3 cd3 ct3), sl3⟩) (c3 : PySem.W.codeIn K cd3 "word_fits" = true) (k3 : PySem.W.keepIn K (.ref f3) = true)
    (a4 : PySem.W.nsIn K mainGlobals "take_fits" = some (some (.ref f4))) (l4 : K.lookup f4 = some ⟨oc4, od4, .func (PySem.W.fnOf "take_fits" "take_fits" (defArgs s_take_fits) (defBody s_take_fits) (defScope s_take_fits) .none kV4 dc4 pm4 an4 cd4 ct4), sl4⟩) (c4 : PySem.W.codeIn K cd4 "take_fits" = true) (k4 : PySem.W.keepIn K (.ref f4) = true)
    (a5 : PySem.W.nsIn K mainGlobals "say_fits" = some (some (.ref f5))) (l5 : K.lookup f5 = some ⟨oc5, od5, .func (PySem.W.fnOf "say_fits" "say_fits" (defArgs s_say_fits) (defBody s_say_fits) (defScope s_say_fits) .none kV5 dc5 pm5 an5 cd5 ct5), sl5⟩) (c5 : PySem.W.codeIn K cd5 "say_fits" = true) (k5 : PySem.W.keepIn K (.ref f5) = true)
    (a6 : PySem.W.nsIn K mainGlobals "goto_fits" = some (some (.ref f6))) (l6 : K.lookup f6 = some ⟨oc6, od6, .func (PySem.W.fnOf "goto_fits" "goto_fits" (defArgs s_goto_fits) (defBody s_goto_fits) (defScope s_goto_fits) .none kV6 dc6 pm6 an6 cd6 ct6), sl6⟩) (c6 : PySem.W.codeIn K cd6 "goto_fits" = true) (k6 : PySem.W.keepIn K (.ref f6) = true)
    (a7 : PySem.W.nsIn K mainGlobals "if_fits" = some (some (.ref f7))) (l7 : K.lookup f7 = some ⟨oc7, od7, .func (PySem.W.fnOf "if_fits" "if_fits" (defArgs s_if_fits) (defBody s_if_fits) (defScope s_if_fits) .none kV7 dc7 pm7 an7 cd7 ct7), sl7⟩) (c7 : PySem.W.codeIn K cd7 "if_fits" = true) (k7 : PySem.W.keepIn K (.ref f7) = true)
    (a8 : PySem.W.nsIn K mainGlobals "is_program" = some (some (.ref f8))) (l8 : K.lookup f8 = some ⟨oc8, od8, .func (PySem.W.fnOf "is_program" "is_program" (defArgs s_is_program) (defBody s_is_program) (defScope s_is_program) .none kV8 dc8 pm8 an8 cd8 ct8), sl8⟩) (c8 : PySem.W.codeIn K cd8 "is_program" = true) (k8 : PySem.W.keepIn K (.ref f8) = true)
    (a9 : PySem.W.nsIn K mainGlobals "row_fits" = some (some (.ref f9))) (l9 : K.lookup f9 = some ⟨oc9, od9, .func (PySem.W.fnOf "row_fits" "row_fits" (defArgs s_row_fits) (defBody s_row_fits) (defScope s_row_fits) .none kV9 dc9 pm9 an9 cd9 ct9), sl9⟩) (c9 : PySem.W.codeIn K cd9 "row_fits" = true) (k9 : PySem.W.keepIn K (.ref f9) = true)
    (a10 : PySem.W.nsIn K mainGlobals "_law_hand" = some (some (.ref f10))) (l10 : K.lookup f10 = some ⟨oc10, od10, .func (PySem.W.fnOf "_law_hand" "_law_hand" (defArgs s__law_hand) (defBody s__law_hand) (defScope s__law_hand) .none kV10 dc10 pm10 an10 cd10 ct10), sl10⟩) (c10 : PySem.W.codeIn K cd10 "_law_hand" = true) (k10 : PySem.W.keepIn K (.ref f10) = true)
    (a11 : PySem.W.nsIn K mainGlobals "_law_pick" = some (some (.ref f11))) (l11 : K.lookup f11 = some ⟨oc11, od11, .func (PySem.W.fnOf "_law_pick" "_law_pick" (defArgs s__law_pick) (defBody s__law_pick) (defScope s__law_pick) .none kV11 dc11 pm11 an11 cd11 ct11), sl11⟩) (c11 : PySem.W.codeIn K cd11 "_law_pick" = true) (k11 : PySem.W.keepIn K (.ref f11) = true)
    (a12 : PySem.W.nsIn K mainGlobals "_law_of" = some (some (.ref f12))) (l12 : K.lookup f12 = some ⟨oc12, od12, .func (PySem.W.fnOf "_law_of" "_law_of" (defArgs s__law_of) (defBody s__law_of) (defScope s__law_of) .none kV12 dc12 pm12 an12 cd12 ct12), sl12⟩) (c12 : PySem.W.codeIn K cd12 "_law_of" = true) (k12 : PySem.W.keepIn K (.ref f12) = true)
    (a13 : PySem.W.nsIn K mainGlobals "_law_row" = some (some (.ref f13))) (l13 : K.lookup f13 = some ⟨oc13, od13, .func (PySem.W.fnOf "_law_row" "_law_row" (defArgs s__law_row) (defBody s__law_row) (defScope s__law_row) .none kV13 dc13 pm13 an13 cd13 ct13), sl13⟩) (c13 : PySem.W.codeIn K cd13 "_law_row" = true) (k13 : PySem.W.keepIn K (.ref f13) = true)
    (a14 : PySem.W.nsIn K mainGlobals "_law_program" = some (some (.ref f14))) (l14 : K.lookup f14 = some ⟨oc14, od14, .func (PySem.W.fnOf "_law_program" "_law_program" (defArgs s__law_program) (defBody s__law_program) (defScope s__law_program) .none kV14 dc14 pm14 an14 cd14 ct14), sl14⟩) (c14 : PySem.W.codeIn K cd14 "_law_program" = true) (k14 : PySem.W.keepIn K (.ref f14) = true)
    (a15 : PySem.W.nsIn K mainGlobals "_law_whole" = some (some (.ref f15))) (l15 : K.lookup f15 = some ⟨oc15, od15, .func (PySem.W.fnOf "_law_whole" "_law_whole" (defArgs s__law_whole) (defBody s__law_whole) (defScope s__law_whole) .none kV15 dc15 pm15 an15 cd15 ct15), sl15⟩) (c15 : PySem.W.codeIn K cd15 "_law_whole" = true) (k15 : PySem.W.keepIn K (.ref f15) = true)
    (a16 : PySem.W.nsIn K mainGlobals "_law_is_row" = some (some (.ref f16))) (l16 : K.lookup f16 = some ⟨oc16, od16, .func (PySem.W.fnOf "_law_is_row" "_law_is_row" (defArgs s__law_is_row) (defBody s__law_is_row) (defScope s__law_is_row) .none kV16 dc16 pm16 an16 cd16 ct16), sl16⟩) (c16 : PySem.W.codeIn K cd16 "_law_is_row" = true) (k16 : PySem.W.keepIn K (.ref f16) = true)
    (a17 : PySem.W.nsIn K mainGlobals "_law_is_program" = some (some (.ref f17))) (l17 : K.lookup f17 = some ⟨oc17, od17, .func (PySem.W.fnOf "_law_is_program" "_law_is_program" (defArgs s__law_is_program) (defBody s__law_is_program) (defScope s__law_is_program) .none kV17 dc17 pm17 an17 cd17 ct17), sl17⟩) (c17 : PySem.W.codeIn K cd17 "_law_is_program" = true) (k17 : PySem.W.keepIn K (.ref f17) = true)
    (a18 : PySem.W.nsIn K mainGlobals "_law_bounds" = some (some (.ref f18))) (l18 : K.lookup f18 = some ⟨oc18, od18, .func (PySem.W.fnOf "_law_bounds" "_law_bounds" (defArgs s__law_bounds) (defBody s__law_bounds) (defScope s__law_bounds) .none kV18 dc18 pm18 an18 cd18 ct18), sl18⟩) (c18 : PySem.W.codeIn K cd18 "_law_bounds" = true) (k18 : PySem.W.keepIn K (.ref f18) = true)
    (a19 : PySem.W.nsIn K mainGlobals "law" = some (some (.ref f19))) (l19 : K.lookup f19 = some ⟨oc19, od19, .func (PySem.W.fnOf "law" "law" (defArgs s_law) (defBody s_law) (defScope s_law) .none kV19 dc19 pm19 an19 cd19 ct19), sl19⟩) (c19 : PySem.W.codeIn K cd19 "law" = true) (k19 : PySem.W.keepIn K (.ref f19) = true)
    (z0 : PySem.W.nsIn K mainGlobals "all" = some none)
    (z1 : PySem.W.nsIn K mainGlobals "bool" = some none)
    (z2 : PySem.W.nsIn K mainGlobals "int" = some none)
    (z3 : PySem.W.nsIn K mainGlobals "isinstance" = some none)
    (z4 : PySem.W.nsIn K mainGlobals "len" = some none)
    (z5 : PySem.W.nsIn K mainGlobals "min" = some none)
    (z6 : PySem.W.nsIn K mainGlobals "range" = some none)
    (z7 : PySem.W.nsIn K mainGlobals "str" = some none)
    (z8 : PySem.W.nsIn K mainGlobals "tuple" = some none)
    {tM : Tok} (cM : PySem.W.nsIn K mainGlobals "MOST_SAID" = some (some (.int 99 tM))) {aF : Addr} {e1 e2 e3 e4 e5 e6 : DictEntry} {nF : Nat} {t1 t2 t3 t4 t5 t6 : Tok} (cF : PySem.W.nsIn K mainGlobals "FORMS" = some (some (.ref aF)))
    (lF : K.lookup aF = some ⟨.type "dict", none, .dict #[e1, e2, e3, e4, e5, e6] nF, #[]⟩) (kF : PySem.W.KeysLit w.params [e1, e2, e3, e4, e5, e6]) (lowF : (aF == sysModules) = false)
    (q1 : e1.key = .str "take" t1) (q2 : e2.key = .str "try" t2) (q3 : e3.key = .str "let" t3) (q4 : e4.key = .str "say" t4) (q5 : e5.key = .str "goto" t5) (q6 : e6.key = .str "if" t6)
    (v1 : e1.val = .ref f4) (v2 : e2.val = .ref f3) (v3 : e3.val = .ref f3) (v4 : e4.val = .ref f5) (v5 : e5.val = .ref f6) (v6 : e6.val = .ref f7) (nd : [f4, f3, f5, f6, f7].Nodup) :
    ∃ fd : FuncData, (∀ (s : Shared) (v : Value), BindsTo s fd ⟨[v], []⟩ [("_law_script", v)]) ∧ ∀ base : Heap, K.In base → base.Ns mainGlobals mg → FnOk l.prog w K mg base CX0 7 fa fd ["_law_script"] (spLaw K) := by
  have e := hfa.symm.trans (PySem.W.mg_of X G a19)
  cases e
  refine ⟨PySem.W.fnOf "law" "law" (defArgs s_law) (defBody s_law) (defScope s_law) .none kV19 dc19 pm19 an19 cd19 ct19, fun s v => .of_eq rfl, fun base _ _ => ?_⟩
  exact ok_law (T := {
    f_is_whole := f0, d_is_whole := _, F_is_whole := fun_mk (st := s_is_whole) l0 c0 k0, m_is_whole := PySem.W.mg_of X G a0,
    f_is_whole_from := f1, d_is_whole_from := _, F_is_whole_from := fun_mk (st := s_is_whole_from) l1 c1 k1, m_is_whole_from := PySem.W.mg_of X G a1,
    f_is_row_number := f2, d_is_row_number := _, F_is_row_number := fun_mk (st := s_is_row_number) l2 c2 k2, m_is_row_number := PySem.W.mg_of X G a2,
    f_word_fits := f3, d_word_fits := _, F_word_fits := fun_mk (st := s_word_fits) l3 c3 k3, m_word_fits := PySem.W.mg_of X G a3,
    f_take_fits := f4, d_take_fits := _, F_take_fits := fun_mk (st := s_take_fits) l4 c4 k4, m_take_fits := PySem.W.mg_of X G a4,
    f_say_fits := f5, d_say_fits := _, F_say_fits := fun_mk (st := s_say_fits) l5 c5 k5, m_say_fits := PySem.W.mg_of X G a5,
    f_goto_fits := f6, d_goto_fits := _, F_goto_fits := fun_mk (st := s_goto_fits) l6 c6 k6, m_goto_fits := PySem.W.mg_of X G a6,
    f_if_fits := f7, d_if_fits := _, F_if_fits := fun_mk (st := s_if_fits) l7 c7 k7, m_if_fits := PySem.W.mg_of X G a7,
    f_is_program := f8, d_is_program := _, F_is_program := fun_mk (st := s_is_program) l8 c8 k8, m_is_program := PySem.W.mg_of X G a8,
    f_row_fits := f9, d_row_fits := _, F_row_fits := fun_mk (st := s_row_fits) l9 c9 k9, m_row_fits := PySem.W.mg_of X G a9,
    f__law_hand := f10, d__law_hand := _, F__law_hand := fun_mk (st := s__law_hand) l10 c10 k10, m__law_hand := PySem.W.mg_of X G a10,
    f__law_pick := f11, d__law_pick := _, F__law_pick := fun_mk (st := s__law_pick) l11 c11 k11, m__law_pick := PySem.W.mg_of X G a11,
    f__law_of := f12, d__law_of := _, F__law_of := fun_mk (st := s__law_of) l12 c12 k12, m__law_of := PySem.W.mg_of X G a12,
    f__law_row := f13, d__law_row := _, F__law_row := fun_mk (st := s__law_row) l13 c13 k13, m__law_row := PySem.W.mg_of X G a13,
    f__law_program := f14, d__law_program := _, F__law_program := fun_mk (st := s__law_program) l14 c14 k14, m__law_program := PySem.W.mg_of X G a14,
    f__law_whole := f15, d__law_whole := _, F__law_whole := fun_mk (st := s__law_whole) l15 c15 k15, m__law_whole := PySem.W.mg_of X G a15,
    f__law_is_row := f16, d__law_is_row := _, F__law_is_row := fun_mk (st := s__law_is_row) l16 c16 k16, m__law_is_row := PySem.W.mg_of X G a16,
    f__law_is_program := f17, d__law_is_program := _, F__law_is_program := fun_mk (st := s__law_is_program) l17 c17 k17, m__law_is_program := PySem.W.mg_of X G a17,
    f__law_bounds := f18, d__law_bounds := _, F__law_bounds := fun_mk (st := s__law_bounds) l18 c18 k18, m__law_bounds := PySem.W.mg_of X G a18,
    f_law := fa, d_law := _, F_law := fun_mk (st := s_law) l19 c19 k19, m_law := PySem.W.mg_of X G a19,
    z_all := PySem.W.mg_none_of X G z0,
    z_bool := PySem.W.mg_none_of X G z1,
    z_int := PySem.W.mg_none_of X G z2,
    z_isinstance := PySem.W.mg_none_of X G z3,
    z_len := PySem.W.mg_none_of X G z4,
    z_min := PySem.W.mg_none_of X G z5,
    z_range := PySem.W.mg_none_of X G z6,
    z_str := PySem.W.mg_none_of X G z7,
    z_tuple := PySem.W.mg_none_of X G z8,
    t_MOST_SAID := tM, c_MOST_SAID := PySem.W.mg_of X G cM, a_FORMS := aF, c_FORMS := PySem.W.mg_of X G cF, D_FORMS := ktab6 lF kF lowF q1 q2 q3 q4 q5 q6 v1 v2 v3 v4 v5 v6, nd := nd
    })
theorem walk {l : PySem.W.OpenLaw} {q : Program} {loose : List Str} {XP : (Str → Option Value) → Heap → Prop} {YP : World → Heap → Prop} {d : DefRec} {K : Params → PySem.W.Frag} (hn : l.most = some 63) (hdf : d.params.defaults = [])
    (hY : ∀ (w : World) (h : Heap), YP w h → (K w.params).In h)
    (F : ∀ (w : World) (mg : Str → Option Value) (fa : Addr) (h : Heap), (K w.params).In h → h.Ns mainGlobals mg → mg d.name = some (.ref fa) →
      ∃ fd : FuncData, (∀ (s : Shared) (u : Value), BindsTo s fd ⟨[u], []⟩ [("_law_script", u)]) ∧ ∀ base : Heap, (K w.params).In base → base.Ns mainGlobals mg → FnOk l.prog w (K w.params) mg base CX0 7 fa fd ["_law_script"] (spLaw (K w.params))) :
    PySem.W.WalkO q loose XP YP l.row.toRowW d [] (fun f vs => PySem.call f vs) :=
  L2.walk_of (n := 63) (k := 7) (x := "_law_script") (CX := fun _ => CX0) (sp := fun w => spLaw (K w.params)) hn (by decide) hdf ⟨rfl, by decide, by decide⟩ hY F (fun _ _ a ns hl _ hS => ⟨a, ns, rfl, hS, hl, fun _ => rfl⟩) fun _ _ _ _ _ z => z
end K05
open PySem PySem.W PyProof.Rows
set_option maxRecDepth 100000 in
set_option maxHeartbeats 0 in
theorem PySem.Challenge.cw_nearlocks_k05_programs_at_their_bounds_holds : PySem.Challenge.rw_nearlocks_k05_programs_at_their_bounds.Holds := by
  w_on; o_law; k_head; (case hw => w_witness2)
  k_fill
  refine K05.walk (l := PySem.Challenge.rw_nearlocks_k05_programs_at_their_bounds) rfl rfl (fun w h Y => PySem.W.kIn_of Y) ?F
  case F =>
    intro w mg fa h KX G hmg
    refine' K05.all_mk KX G hmg ?a0 ?l0 ?c0 ?k0 ?a1 ?l1 ?c1 ?k1 ?a2 ?l2 ?c2 ?k2 ?a3 ?l3 ?c3 ?k3 ?a4 ?l4 ?c4 ?k4 ?a5 ?l5 ?c5 ?k5 ?a6 ?l6 ?c6 ?k6 ?a7 ?l7 ?c7 ?k7 ?a8 ?l8 ?c8 ?k8 ?a9 ?l9 ?c9 ?k9 ?a10 ?l10 ?c10 ?k10 ?a11 ?l11 ?c11 ?k11 ?a12 ?l12 ?c12 ?k12 ?a13 ?l13 ?c13 ?k13 ?a14 ?l14 ?c14 ?k14 ?a15 ?l15 ?c15 ?k15 ?a16 ?l16 ?c16 ?k16 ?a17 ?l17 ?c17 ?k17 ?a18 ?l18 ?c18 ?k18 ?a19 ?l19 ?c19 ?k19 ?z0 ?z1 ?z2 ?z3 ?z4 ?z5 ?z6 ?z7 ?z8 ?cM ?cF ?lF ?kF ?lowF ?q1 ?q2 ?q3 ?q4 ?q5 ?q6 ?v1 ?v2 ?v3 ?v4 ?v5 ?v6 ?nd
    (case a0 => k_is); (case l0 => k_is); (case c0 => k_is); (case k0 => k_is)
    (case a1 => k_is); (case l1 => k_is); (case c1 => k_is); (case k1 => k_is)
    (case a2 => k_is); (case l2 => k_is); (case c2 => k_is); (case k2 => k_is)
    (case a3 => k_is); (case l3 => k_is); (case c3 => k_is); (case k3 => k_is)
    (case a4 => k_is); (case l4 => k_is); (case c4 => k_is); (case k4 => k_is)
    (case a5 => k_is); (case l5 => k_is); (case c5 => k_is); (case k5 => k_is)
    (case a6 => k_is); (case l6 => k_is); (case c6 => k_is); (case k6 => k_is)
    (case a7 => k_is); (case l7 => k_is); (case c7 => k_is); (case k7 => k_is)
    (case a8 => k_is); (case l8 => k_is); (case c8 => k_is); (case k8 => k_is)
    (case a9 => k_is); (case l9 => k_is); (case c9 => k_is); (case k9 => k_is)
    (case a10 => k_is); (case l10 => k_is); (case c10 => k_is); (case k10 => k_is)
    (case a11 => k_is); (case l11 => k_is); (case c11 => k_is); (case k11 => k_is)
    (case a12 => k_is); (case l12 => k_is); (case c12 => k_is); (case k12 => k_is)
    (case a13 => k_is); (case l13 => k_is); (case c13 => k_is); (case k13 => k_is)
    (case a14 => k_is); (case l14 => k_is); (case c14 => k_is); (case k14 => k_is)
    (case a15 => k_is); (case l15 => k_is); (case c15 => k_is); (case k15 => k_is)
    (case a16 => k_is); (case l16 => k_is); (case c16 => k_is); (case k16 => k_is)
    (case a17 => k_is); (case l17 => k_is); (case c17 => k_is); (case k17 => k_is)
    (case a18 => k_is); (case l18 => k_is); (case c18 => k_is); (case k18 => k_is)
    (case a19 => k_is); (case l19 => k_is); (case c19 => k_is); (case k19 => k_is)
    (case z0 => k_is)
    (case z1 => k_is)
    (case z2 => k_is)
    (case z3 => k_is)
    (case z4 => k_is)
    (case z5 => k_is)
    (case z6 => k_is)
    (case z7 => k_is)
    (case z8 => k_is)
    (case cM => k_is); (case cF => k_is); (case lF => k_is); (case kF => k_keys); (case lowF => decide)
    (case q1 => rfl); (case q2 => rfl); (case q3 => rfl); (case q4 => rfl); (case q5 => rfl); (case q6 => rfl)
    (case v1 => rfl); (case v2 => rfl); (case v3 => rfl); (case v4 => rfl); (case v5 => rfl); (case v6 => rfl); (case nd => decide)

