import PyProof.Rows.All
import Wide.All
import OpenK.AllK
import Wide.FinOn
import HandS.CallLocal
import HandS.Deep
import HandS.DeepEq
import HandS.DictComp
import HandS.Evl
import HandS.ForMost
import HandS.IsInst
import HandS.More
import HandS.OwnEq
import HandS.Star
import HandS.Strs
import HandS.Style
import HandS.TryOnly
import HandS.TupAny
import HandS.Walk
import HandS.WrittenGet
import HandS.Zip
import KE.GoesMore
import KE.KCallOwn
import KE.KDictZip
import PySem.Challenge.RW_nearlocks_k41_houses_that_are_stuck
set_option Elab.async false
set_option linter.all false
set_option maxRecDepth 100000
set_option maxHeartbeats 4000000
/-! the ground: data of the heap, their kinds, what stays -/
namespace NL
open PySem L2 Evl
mutual
theorem dp_of {K : PySem.W.Frag} {H H' : Hp} (el : ∀ a xs, SqL K H a xs → SqL K H' a xs) (et : ∀ a xs, SqT K H a xs → SqT K H' a xs) : ∀ (d : PyData) (v : V), Dp K H v d → Dp K H' v d
  | .none, _, h => by cases h; exact .non
  | .bool b, _, h => by cases h; exact .bl b
  | .int i, _, h => by cases h; exact .int i
  | .str x, _, h => by cases h; exact .str x
  | .list ds, _, h => by
    cases h with
    | lst hs ha => exact .lst (el _ _ hs) (dpa_of el et ds _ ha)
  | .tuple ds, _, h => by
    cases h with
    | tup hs ha => exact .tup (et _ _ hs) (dpa_of el et ds _ ha)
  | .dict _, _, h => by cases h
theorem dpa_of {K : PySem.W.Frag} {H H' : Hp} (el : ∀ a xs, SqL K H a xs → SqL K H' a xs) (et : ∀ a xs, SqT K H a xs → SqT K H' a xs) : ∀ (ds : List PyData) (vs : List V), DpAll K H vs ds → DpAll K H' vs ds
  | [], _, h => by cases h; exact .nil
  | d :: ds, _, h => by
    cases h with
    | cons h1 h2 => exact .cons (dp_of el et d _ h1) (dpa_of el et ds _ h2)
end
theorem dp_mono {K : PySem.W.Frag} {H H' : Hp} {v : V} {d : PyData} (e : Ex H H') (h : Dp K H v d) : Dp K H' v d := dp_of (fun _ _ => ex_l e) (fun _ _ => ex_t e) d v h
/-! ### kinds -/
def tyN : PyData → String
  | .none => "NoneType" | .bool _ => "bool" | .int _ => "int" | .str _ => "str" | .list _ => "list" | .tuple _ => "tuple" | .dict _ => "dict"
theorem dp_ty {K : PySem.W.Frag} {H : Hp} {v : V} {d : PyData} (h : Dp K H v d) : TyX K H v (.type (tyN d)) := by
  cases h with
  | non => exact .base .non
  | bl b => exact .base (.bl b)
  | int i => exact .base (.int i)
  | str x => exact .base (.str x)
  | lst hs _ =>
    rcases hs with (h | ⟨o, h⟩) | ⟨o, its, n, h, c, _⟩
    · exact .base (.lst h)
    · exact .base (.frz h)
    · exact .kList h c
  | tup hs _ =>
    rcases hs with (h | ⟨o, h⟩) | ⟨o, its, n, h, c, _⟩
    · exact .base (.tup h)
    · exact .fTuple h
    · exact .kTuple h c
def isIntB : PyData → Bool
  | .int _ => true | .bool _ => true | _ => false
def isBoolB : PyData → Bool
  | .bool _ => true | _ => false
def isTupB : PyData → Bool
  | .tuple _ => true | _ => false
def isStrB : PyData → Bool
  | .str _ => true | _ => false
theorem kt_int (d : PyData) : kitB (tyN d) "int" = some (isIntB d) := by
  cases d
  · exact (by decide +kernel : kitB "NoneType" "int" = some false)
  · exact (by decide +kernel : kitB "bool" "int" = some true)
  · exact (by decide +kernel : kitB "int" "int" = some true)
  · exact (by decide +kernel : kitB "str" "int" = some false)
  · exact (by decide +kernel : kitB "list" "int" = some false)
  · exact (by decide +kernel : kitB "tuple" "int" = some false)
  · exact (by decide +kernel : kitB "dict" "int" = some false)
theorem kt_bool (d : PyData) : kitB (tyN d) "bool" = some (isBoolB d) := by
  cases d
  · exact (by decide +kernel : kitB "NoneType" "bool" = some false)
  · exact (by decide +kernel : kitB "bool" "bool" = some true)
  · exact (by decide +kernel : kitB "int" "bool" = some false)
  · exact (by decide +kernel : kitB "str" "bool" = some false)
  · exact (by decide +kernel : kitB "list" "bool" = some false)
  · exact (by decide +kernel : kitB "tuple" "bool" = some false)
  · exact (by decide +kernel : kitB "dict" "bool" = some false)
theorem kt_tuple (d : PyData) : kitB (tyN d) "tuple" = some (isTupB d) := by
  cases d
  · exact (by decide +kernel : kitB "NoneType" "tuple" = some false)
  · exact (by decide +kernel : kitB "bool" "tuple" = some false)
  · exact (by decide +kernel : kitB "int" "tuple" = some false)
  · exact (by decide +kernel : kitB "str" "tuple" = some false)
  · exact (by decide +kernel : kitB "list" "tuple" = some false)
  · exact (by decide +kernel : kitB "tuple" "tuple" = some true)
  · exact (by decide +kernel : kitB "dict" "tuple" = some false)
theorem kt_str (d : PyData) : kitB (tyN d) "str" = some (isStrB d) := by
  cases d
  · exact (by decide +kernel : kitB "NoneType" "str" = some false)
  · exact (by decide +kernel : kitB "bool" "str" = some false)
  · exact (by decide +kernel : kitB "int" "str" = some false)
  · exact (by decide +kernel : kitB "str" "str" = some true)
  · exact (by decide +kernel : kitB "list" "str" = some false)
  · exact (by decide +kernel : kitB "tuple" "str" = some false)
  · exact (by decide +kernel : kitB "dict" "str" = some false)
section
variable {K : PySem.W.Frag} {σ : L2.St} {H : Hp} {ta tb te : TE} {x v : V} {d : PyData}
theorem ev_isi {T : String} {b : Bool} (ha : Ev ta σ H x) (hd : Dp K H x d) (hk : kitB (tyN d) T = some b) : Ev (tCB (rIsi K) (tCons ta (tCons (tC (.ty T)) tNil))) σ H (.bl b) := fun H1 e Q q =>
  ha H1 e _ fun H2 e2 => ⟨x, .ty T, _, _, b, rfl, .ty T, dp_ty (dp_mono (e.trans e2) hd), kit_ty hk, q H2 e2⟩
theorem ev_lenT {p : Addr} {xs : List V} (ha : Ev ta σ H (.ref p)) (h : SqT K H p xs) : Ev (tCB (rLenS K) (tCons ta tNil)) σ H (.int (xs.length : Int)) := fun H1 e Q q =>
  ha H1 e _ fun H2 e2 => ⟨p, xs, rfl, Or.inr (ex_t (e.trans e2) h), q H2 e2⟩
theorem ev_ixT {p : Addr} {xs : List V} {i : Int} (ha : Ev ta σ H (.ref p)) (hb : Ev tb σ H (.int i)) (h : SqT K H p xs) (hi : atI xs i = some v) : Ev (tOp (rIxT K) ta tb) σ H v := ev_op ha hb (rv_ixT h hi)
theorem ev_isN (ha : Ev ta σ H x) : Ev (tIsN ta) σ H (.bl (decide (x = .non))) := fun H1 e Q q => ha H1 e _ fun H2 e2 => q H2 e2
theorem ev_eq {y : V} (ha : Ev ta σ H x) (hb : Ev tb σ H y) (h : scal x y = true) : Ev (tOp rEq ta tb) σ H (.bl (decide (x = y))) := ev_op ha hb (rv_eq h)
theorem ev_ne {y : V} (ha : Ev ta σ H x) (hb : Ev tb σ H y) (h : scal x y = true) : Ev (tOp rNe ta tb) σ H (.bl (!decide (x = y))) := ev_op ha hb (rv_ne h)
theorem ev_I0 {g : Int → Int → V} {i j : Int} (ha : Ev ta σ H (.int i)) (hb : Ev tb σ H (.int j)) : Ev (tOp (rI0 g) ta tb) σ H (g i j) := ev_op ha hb rv_I0
theorem ev_I {C : Int → Int → Prop} {g : Int → Int → V} {i j : Int} (hc : C i j) (ha : Ev ta σ H (.int i)) (hb : Ev tb σ H (.int j)) : Ev (tOp (rI C g) ta tb) σ H (g i j) := ev_op ha hb (rv_I hc)
theorem ev_allN {bs : List Bool} (ha : EvL ta σ H (bs.map V.bl)) : Ev (tCB (rAll K) (tCons ta tNil)) σ H (.bl (bs.all id)) := fun H1 e Q q =>
  ha H1 e _ fun p H2 _ e2 h2 => ⟨p, bs, rfl, sq_of h2, q H2 e2⟩
/-- a comprehension over a tuple, whose turns give or skip as told -/
theorem el_lcT {a : Addr} {xs : List V} {tl : TE} {tt : TT} {j : Nat} {vs : List Nat} (f : Nat → Bool) (g : Nat → V) (src : Ev tl σ H (.ref a)) (held : SqT K H a xs) (few : xs.length ≤ 40000) (clean : ∀ x, wipe ((wipe σ vs).set j (some x)) vs = wipe σ vs)
    (test : ∀ (i : Nat) (x : V) H1, Ex H H1 → xs[i]? = some x → EvT tt ((wipe σ vs).set j (some x)) H1 (f i)) (give : ∀ (i : Nat) (x : V) H1, Ex H H1 → xs[i]? = some x → f i = true → Ev te ((wipe σ vs).set j (some x)) H1 (g i)) :
    EvL (tLc (iTup K tl) (gName j) tt te vs) σ H (given xs.length f g) := by
  intro H0 e0 Q next
  refine src H0 e0 _ fun H1 e1 => ?_
  have e01 : Ex H H1 := e0.trans e1
  refine ⟨a, rfl, ⟨xs, ex_t e01 held⟩, fun made fresh => ?_⟩
  refine lc_tup (xs := xs) (Cw H1 f g made) ⟨fresh, Ex.new fresh, upd_same⟩ ?stays ?turn ?done
  case stays =>
    intro i H' _ inv
    exact ex_t (e01.trans inv.2.1) held
  case turn =>
    intro i x H' at_i inv
    have small : i < 50000 := by
      have := (List.getElem?_eq_some_iff.mp at_i).1
      omega
    exact ⟨clean x, cw_turn inv small (test i x H1 e01 at_i) (give i x H1 e01 at_i)⟩
  case done =>
    intro H' inv
    exact next made H' (fresh_back e1 inv.1) (e1.trans inv.2.1) inv.2.2
end
theorem s_next {D : Ends} {σ : L2.St} {H : Hp} (h : D.nx σ H) : tNext D σ H := h
theorem q_asgP {te : TE} {tz : TS} {D : Ends} {σ : L2.St} {H : Hp} {i : Nat} (h : te σ H fun v H1 => tz D (σ.set i (some v)) H1) : tSeq (tAsg te (gName i)) tz D σ H := h
theorem s_retP {te : TE} {D : Ends} {σ : L2.St} {H : Hp} (h : te σ H fun v H1 => D.rt v H1) : tRet te D σ H := h
theorem q_dropP {te : TE} {tz : TS} {D : Ends} {σ : L2.St} {H : Hp} (h : te σ H fun v H1 => tz D σ H1) : tSeq (tDrop te) tz D σ H := h
theorem et_yes {σ : L2.St} {H : Hp} : EvT tYes σ H true := fun H1 _ _ q => q H1 (Ex.refl H1)
theorem given_all (n : Nat) (g : Nat → V) : given n (fun _ => true) g = (List.range n).map g := by
  unfold given
  rw [List.filter_eq_self.mpr (fun _ _ => rfl)]
/-! ### arguments without a star, whatever the scope -/
def noStar : Expr → Bool
  | .Starred _ _ => false
  | _ => true
theorem star1 {e : Expr} {es : List Expr} {env : Env} (h : noStar e = true) : starEach (e :: es) env = (false, eval e env) :: starEach es env := by
  cases e <;> first | rfl | cases h
theorem starAll {pos : Pos} {env : Env} : ∀ {es : List Expr}, es.all noStar = true → (backTo pos (starEach es env)).any (·.1) = false
  | [], _ => rfl
  | e :: es, h => by
    rw [List.all_cons, Bool.and_eq_true] at h
    rw [star1 h.1]
    have := starAll (pos := pos) (env := env) h.2
    unfold backTo at this ⊢
    simpa using this
/-! ### rules by a written part that is named -/
section
variable {X : Cx} {K : PySem.W.Frag}
theorem lenK (h : X.K = K) : CallR X (.builtin "len") (rLenS K) := by subst h; exact call_len_seq
theorem isiK (h : X.K = K) : CallR X (.builtin "isinstance") (rIsi K) := by subst h; exact call_isi
theorem allK (h : X.K = K) (hc : X.calm = true) : CallR X (.builtin "all") (rAll K) := by subst h; exact cr_all hc
theorem ixTK (h : X.K = K) : IxR X (rIxT K) := by subst h; exact ix_tup
theorem ixLK (h : X.K = K) : IxR X (rIxL K) := by subst h; exact ix_list
theorem catAK (h : X.K = K) : OpR X (binaryOp .Add) (rCatA K) := by subst h; exact op_catA
theorem slAK (h : X.K = K) : SlR X (rSlA K) := by subst h; exact sl_tupA
theorem eqDK (h : X.K = K) (hu : X.A.units + 64 < cLine) : OpR X (compareOp .Eq) (rEqD K) := by subst h; exact op_eqD hu
theorem neDK (h : X.K = K) (hu : X.A.units + 64 < cLine) : OpR X (compareOp .NotEq) (rNeD K) := by subst h; exact op_neD hu
end
/-! ### a dict of the module, asked by any text -/
def KTab (K : PySem.W.Frag) (w : World) (a : Addr) (f : Str → Option Value) : Prop :=
  ∃ es n, K.lookup a = some ⟨.type "dict", none, .dict es n, #[]⟩ ∧ PySem.W.KeysLit w.params es.toList ∧ (a == sysModules) = false ∧ ∀ z, PySem.W.nsIn K a z = some (f z)
def rNotInK (K : PySem.W.Frag) (w : World) : R2 := fun x y H Q => ∃ p z f, x = .str z ∧ y = .ref p ∧ KTab K w p f ∧ Q (.bl (!(f z).isSome)) H
section
variable {X : Cx}
theorem op_notInK : OpR X (compareOp .NotIn) (rNotInK X.K X.w) := by
  intro pins s σ H x y v u Q I rx ry h
  obtain ⟨p, z, f, rfl, rfl, ⟨es, n, hl, hk, low, hf⟩, q⟩ := h
  obtain rfl : u = Value.ref p := ry
  obtain ⟨t, rfl⟩ := rx
  have hm := PySem.W.mapOf_K (prog := X.prog) (w := X.w) I.kIn hl hk
  refine wpAny_notIn_of (strKind_is X.prog X.w z t) low hm ?_
  rw [PySem.W.find_K hl (hf z)]
  exact ⟨.bl _, H, I.tok _, rfl, q⟩
end
theorem rv_ixD {K : PySem.W.Frag} {w : World} {H : Hp} {p : Addr} {z : Str} {f : Str → Option Value} {a : Addr} (h : KTab K w p f) (e : f z = some (.ref a)) : RV (rIxD K w) (.ref p) (.str z) H (.ref a) := fun H1 _ _ q => by
  obtain ⟨es, n, hl, hk, _, hf⟩ := h
  exact ⟨p, z, .ref a, rfl, rfl, ⟨es, n, .ref a, hl, hk, by rw [hf z, e], rfl⟩, q H1 (Ex.refl H1)⟩
theorem rv_notInK {K : PySem.W.Frag} {w : World} {H : Hp} {p : Addr} {z : Str} {f : Str → Option Value} (h : KTab K w p f) : RV (rNotInK K w) (.str z) (.ref p) H (.bl (!(f z).isSome)) := fun H1 _ _ q => ⟨p, z, f, rfl, rfl, h, q H1 (Ex.refl H1)⟩
end NL
/-! the drawing hand: a list of a list of cells and a seed; what stays while it draws -/
namespace NL
open PySem L2 Evl
structure HandAt (H : Hp) (h l : Addr) (cs : List Int) (sd : Int) : Prop where
  hh : H h = some (.lst [.ref l, .int sd])
  hl : H l = some (.lst (cs.map V.int))
  lo : 0 ≤ sd
  hi : sd < 2305843009213693951
  few : cs.length ≤ 63
  pos : ∀ c ∈ cs, 0 ≤ c
def Hand (H : Hp) (h l : Addr) : Prop := ∃ cs sd, HandAt H h l cs sd
def Kp (h l : Addr) (H H' : Hp) : Prop := ∀ a o, a ≠ h → a ≠ l → H a = some o → H' a = some o
theorem Kp.refl (h l : Addr) (H : Hp) : Kp h l H H := fun _ _ _ _ e => e
theorem Kp.trans {h l : Addr} {H H1 H2 : Hp} (a : Kp h l H H1) (b : Kp h l H1 H2) : Kp h l H H2 := fun x o n m e => b x o n m (a x o n m e)
theorem Kp.ex {h l : Addr} {H H1 : Hp} (a : Ex H H1) : Kp h l H H1 := fun x o _ _ e => a x o e
theorem Kp.put {h l : Addr} {H H1 : Hp} {o : HO} {a : Addr} (k : Kp h l H H1) (ha : a = h ∨ a = l) : Kp h l H (upd H1 a o) := fun x u n m e => by
  have hx : x ≠ a := by rcases ha with rfl | rfl <;> assumption
  rw [upd_ne hx]
  exact k x u n m e
theorem HandAt.ne {H : Hp} {h l : Addr} {cs : List Int} {sd : Int} (A : HandAt H h l cs sd) : h ≠ l := by
  intro e
  subst e
  have e2 := A.hh.symm.trans A.hl
  cases cs with
  | nil => cases e2
  | cons c r => cases e2
theorem Hand.ne {H : Hp} {h l : Addr} (A : Hand H h l) : h ≠ l := by
  obtain ⟨cs, sd, A⟩ := A
  exact A.ne
theorem HandAt.ex {H H' : Hp} {h l : Addr} {cs : List Int} {sd : Int} (A : HandAt H h l cs sd) (e : Ex H H') : HandAt H' h l cs sd := ⟨e _ _ A.hh, e _ _ A.hl, A.lo, A.hi, A.few, A.pos⟩
theorem Hand.ex {H H' : Hp} {h l : Addr} (A : Hand H h l) (e : Ex H H') : Hand H' h l := by
  obtain ⟨cs, sd, A⟩ := A
  exact ⟨cs, sd, A.ex e⟩
theorem Hand.fresh {H : Hp} {h l p : Addr} (A : Hand H h l) (n : H p = none) : p ≠ h ∧ p ≠ l := by
  obtain ⟨cs, sd, A⟩ := A
  constructor
  · intro e
    subst e
    rw [A.hh] at n
    cases n
  · intro e
    subst e
    rw [A.hl] at n
    cases n
theorem Hand.off {H : Hp} {h l p : Addr} {o : HO} (A : Hand H h l) (n : H p = some o) (no : ∀ xs, o ≠ .lst xs) : p ≠ h ∧ p ≠ l := by
  obtain ⟨cs, sd, A⟩ := A
  constructor
  · intro e
    subst e
    rw [A.hh] at n
    cases n
    exact no _ rfl
  · intro e
    subst e
    rw [A.hl] at n
    cases n
    exact no _ rfl
/-- what is new lies beside the hand -/
theorem Hand.new {H : Hp} {h l p : Addr} {o : HO} (A : Hand H h l) (n : H p = none) : Hand (upd H p o) h l := A.ex (Ex.new n)
theorem Hand.upd {H : Hp} {h l p : Addr} {o : HO} (A : Hand H h l) (n : p ≠ h) (m : p ≠ l) : Hand (upd H p o) h l := by
  obtain ⟨cs, sd, A⟩ := A
  exact ⟨cs, sd, by rw [upd_ne (Ne.symm n)]; exact A.hh, by rw [upd_ne (Ne.symm m)]; exact A.hl, A.lo, A.hi, A.few, A.pos⟩
/-! ### lists of ints compared with [] -/
/-! ### slices of a list of ints, from its front -/
end NL
/-! defs that are called where no text of a heap's thing is being made: what repr asks for -/
namespace NL
open PySem PySem.Spec PyProof.Rows L2 Evl
/-- the promise of a def, kept wherever no repr is under way -/
structure FnG (P : Program) (w : World) (K : PySem.W.Frag) (mg : Str → Option Value) (base : Heap) (k : Nat) (f : Addr) (fd : FuncData) (ps : List Str) (sp : Sp) : Prop where
  arity : ∀ xs H Q E, sp xs H Q E → xs.length = ps.length
  go : ∀ (A : Around) (envs : List Env) (st : Shared) (H : Hp) (ar : Args) (vals : List Value) (xs : List V) (Q : VK) (E : XK), A.guards = some [] → Room k A → Env0 P w K mg base A envs st H → BindsTo st fd ar (ps.zip vals) → Vals xs vals → sp xs H Q E →
    codeAny (model P w) A (.call (.ref f) ar) (CR CX0 envs P w H st Q E) st
section
variable {P : Program} {w : World} {K : PySem.W.Frag} {mg : Str → Option Value} {base : Heap} {k : Nat} {f : Addr} {fd : FuncData} {ps : List Str} {sp : Sp}
theorem FnG.up {j : Nat} (F : FnG P w K mg base k f fd ps sp) (h : k ≤ j) : FnG P w K mg base j f fd ps sp := ⟨F.arity, fun A envs st H ar vals xs Q E g room => F.go A envs st H ar vals xs Q E g (room.mono h)⟩
/-- a def of the text, by its body -/
theorem fun_g {x qual : Str} {st : Stmt} {N : List Str} (F : Fun K x qual st f fd) (S : FnScope N ps (defScope st)) (arity : ∀ xs H Q E, sp xs H Q E → xs.length = ps.length)
    (body : ∀ (cdv : Value) (A : Around) (outer : List Env) (s : Shared) (H : Hp) (vs : List V) (Q : VK) (E : XK), A.guards = some [] → Room k (A.deeper (PyProof.Rows.envOfC qual (defScope st) s.heap.objs.size f cdv)) → sp vs H Q E →
      ∃ t, PSs (cxOf CX0 P w K mg base N qual (defScope st) f cdv A outer s H E).nox (defBody st) t ∧ t { nx := fun _ H' => Q .non H', rt := Q } (start N vs) H) : FnG P w K mg base (k + 1) f fd ps sp := by
  obtain ⟨oc, od, kV, doc, pm, an, cdv, ct, osl, hfd, look, code⟩ := F.ex
  subst hfd
  constructor
  · exact arity
  intro A envs s H ar vals xs Q E quiet room env0 binds rel promise
  have stays : ∀ b o, base.get? b = some o → s.heap.get? b = some o := fun b o e => (env0.bs b o e).1
  have kin : K.In s.heap := env0.mod.kin.keeps stays
  have nolim : s.heap.NoLimit := env0.mod.nolimit.keeps stays
  obtain ⟨t, walk, ends⟩ := body cdv A envs s H xs Q E quiet (room.deeper _) promise
  refine codeAny_call_function room.depth (kin _ _ look) rfl S.co S.gen rfl (PySem.W.codeRec_of kin code) (binds _ _ _ _ ?_)
  refine wpAny_newFunctionEnv_cells S.kind ?kinds fun env henv s1 made => ?_
  case kinds =>
    intro ⟨n, v⟩ mem
    cases S.par n (List.of_mem_zip mem).1 with
    | inl loc => exact Or.inl loc
    | inr cell => exact Or.inr ⟨cell, PySem.W.cellsFrom_some _ _ _ (Or.inl cell)⟩
  subst henv
  refine ⟨nolim.keeps made.toInCall.keep, codeAny_func ?_⟩
  refine wpAny_mono (walk.nox.run [] s1 (start N xs) H _ (inv_start S room.hd env0 (arity _ _ _ _ promise) rel made) ends) (fun flow s' out => ?_) fun e s' out => out
  match flow, out with
  | .ret u, out =>
    obtain ⟨v, σ', H', inv, ru, q⟩ := out
    exact ⟨v, H', inv.os, inv.bare, inv.base, inv.hok, ru, q⟩
  | .next, out =>
    obtain ⟨σ', H', inv, q⟩ := out
    exact ⟨V.non, H', inv.os, inv.bare, inv.base, inv.hok, rfl, q⟩
  | .brk, out => exact out.elim fun _ h => h.elim fun _ h => h.2.elim
  | .cont, out => exact out.elim fun _ h => h.elim fun _ h => h.2.elim
end
/-! ### the law's own call -/
end NL
/-! plans as trees, and as they lie in the heap -/
namespace NL
open PySem L2 Evl
inductive Tr where
  | hand (n : Str)
  | grp (n : Str) (b : Int) (ms : List Tr)
/-- name, whether it is a group, the groups around it -/
abbrev Rw := Str × Bool × List Str
mutual
def Tr.told : Tr → List Str → List Rw
  | .hand n, p => [(n, false, p)]
  | .grp n _ ms, p => (n, true, p) :: tolds ms (n :: p)
def tolds : List Tr → List Str → List Rw
  | [], _ => []
  | t :: ts, p => t.told p ++ tolds ts p
end
mutual
def Tr.size : Tr → Nat
  | .hand _ => 1
  | .grp _ _ ms => sizes ms + 1
def sizes : List Tr → Nat
  | [] => 0
  | t :: ts => t.size + sizes ts
end
mutual
def Tr.deep : Tr → Nat
  | .hand _ => 0
  | .grp _ _ ms => deeps ms + 1
def deeps : List Tr → Nat
  | [] => 0
  | t :: ts => max t.deep (deeps ts)
end
mutual
theorem told_len : ∀ (t : Tr) (p : List Str), (t.told p).length = t.size
  | .hand n, p => by simp [Tr.told, Tr.size]
  | .grp n b ms, p => by simp [Tr.told, Tr.size, tolds_len ms]
theorem tolds_len : ∀ (ts : List Tr) (p : List Str), (tolds ts p).length = sizes ts
  | [], p => by simp [tolds, sizes]
  | t :: ts, p => by simp [tolds, sizes, told_len t, tolds_len ts]
end
mutual
inductive TrV (H : Hp) : V → Tr → Prop
  | hand (n : Str) : TrV H (.str n) (.hand n)
  | grp {a m : Addr} {n : Str} {b : Int} {xs : List V} {ms : List Tr} : H a = some (.tup [.str n, .int b, .ref m]) → H m = some (.tup xs) → TrVs H xs ms → TrV H (.ref a) (.grp n b ms)
inductive TrVs (H : Hp) : List V → List Tr → Prop
  | nil : TrVs H [] []
  | cons {v : V} {vs : List V} {t : Tr} {ts : List Tr} : TrV H v t → TrVs H vs ts → TrVs H (v :: vs) (t :: ts)
end
/-- tuples stay -/
def TK (H H' : Hp) : Prop := ∀ a xs, H a = some (.tup xs) → H' a = some (.tup xs)
theorem TK.refl (H : Hp) : TK H H := fun _ _ e => e
theorem TK.trans {H H1 H2 : Hp} (a : TK H H1) (b : TK H1 H2) : TK H H2 := fun x o e => b x o (a x o e)
theorem TK.ex {H H' : Hp} (e : Ex H H') : TK H H' := fun a xs h => e a _ h
theorem TK.put {H : Hp} {p : Addr} {o : HO} (h : ∀ xs, H p ≠ some (.tup xs)) : TK H (upd H p o) := fun a xs e => by
  rw [upd_ne (fun z => by subst z; exact h _ e)]
  exact e
theorem TK.lst {H : Hp} {p : Addr} {o : HO} {ys : List V} (h : H p = some (.lst ys)) : TK H (upd H p o) := TK.put fun xs e => by rw [h] at e; cases e
theorem TK.new {H : Hp} {p : Addr} {o : HO} (h : H p = none) : TK H (upd H p o) := TK.put fun xs e => by rw [h] at e; cases e
mutual
theorem trv_tk {H H' : Hp} (k : TK H H') : ∀ (t : Tr) (v : V), TrV H v t → TrV H' v t
  | .hand n, _, h => by cases h; exact .hand n
  | .grp n b ms, _, h => by
    cases h with
    | grp h1 h2 h3 => exact .grp (k _ _ h1) (k _ _ h2) (trvs_tk k ms _ h3)
theorem trvs_tk {H H' : Hp} (k : TK H H') : ∀ (ts : List Tr) (vs : List V), TrVs H vs ts → TrVs H' vs ts
  | [], _, h => by cases h; exact .nil
  | t :: ts, _, h => by
    cases h with
    | cons h1 h2 => exact .cons (trv_tk k t _ h1) (trvs_tk k ts _ h2)
end
theorem trvs_get {H : Hp} : ∀ {vs : List V} {ts : List Tr} {i : Nat} {v : V}, TrVs H vs ts → vs[i]? = some v → ∃ t, ts[i]? = some t ∧ TrV H v t
  | _, _, _, _, .nil, e => by simp at e
  | _, _, 0, _, .cons r _, e => by simp at e; subst e; exact ⟨_, rfl, r⟩
  | _, _, i + 1, v, .cons _ t, e => by
    obtain ⟨d, h1, h2⟩ := trvs_get (i := i) (v := v) t (by simpa using e)
    exact ⟨d, by simpa using h1, h2⟩
theorem trvs_len {H : Hp} : ∀ {vs : List V} {ts : List Tr}, TrVs H vs ts → vs.length = ts.length
  | _, _, .nil => rfl
  | _, _, .cons _ t => by rw [List.length_cons, List.length_cons, trvs_len t]
theorem sizes_mem : ∀ {ts : List Tr} {i : Nat} {t : Tr}, ts[i]? = some t → t.size ≤ sizes ts
  | [], _, _, h => by simp at h
  | u :: ts, 0, t, h => by simp at h; subst h; simp [sizes]
  | u :: ts, i + 1, t, h => by
    have := sizes_mem (ts := ts) (i := i) (t := t) (by simpa using h)
    simp only [sizes]
    omega
theorem deeps_mem : ∀ {ts : List Tr} {i : Nat} {t : Tr}, ts[i]? = some t → t.deep ≤ deeps ts
  | [], _, _, h => by simp at h
  | u :: ts, 0, t, h => by simp at h; subst h; simp only [deeps]; exact Nat.le_max_left _ _
  | u :: ts, i + 1, t, h => by
    have := deeps_mem (ts := ts) (i := i) (t := t) (by simpa using h)
    simp only [deeps]
    exact Nat.le_trans this (Nat.le_max_right _ _)
theorem sizes_take : ∀ (ts : List Tr) (i : Nat), sizes (ts.take i) ≤ sizes ts
  | [], i => by simp [sizes]
  | t :: ts, 0 => by simp [sizes]
  | t :: ts, i + 1 => by
    have := sizes_take ts i
    simp only [List.take_succ_cons, sizes]
    omega
/-- a row of a tale of a plan, in the heap -/
def RowT (H : Hp) (v : V) (r : Rw) : Prop := ∃ a pa, v = .ref a ∧ H a = some (.tup [.str r.1, .bl r.2.1, .ref pa]) ∧ H pa = some (.tup (r.2.2.map V.str))
inductive Rows (H : Hp) : List V → List Rw → Prop
  | nil : Rows H [] []
  | cons {v : V} {vs : List V} {r : Rw} {rs : List Rw} : RowT H v r → Rows H vs rs → Rows H (v :: vs) (r :: rs)
theorem RowT.tk {H H' : Hp} {v : V} {r : Rw} (k : TK H H') (h : RowT H v r) : RowT H' v r := by
  obtain ⟨a, pa, e, h1, h2⟩ := h
  exact ⟨a, pa, e, k _ _ h1, k _ _ h2⟩
theorem Rows.tk {H H' : Hp} (k : TK H H') : ∀ {vs : List V} {rs : List Rw}, Rows H vs rs → Rows H' vs rs
  | _, _, .nil => .nil
  | _, _, .cons a b => .cons (a.tk k) (b.tk k)
theorem Rows.app {H : Hp} : ∀ {vs us : List V} {rs qs : List Rw}, Rows H vs rs → Rows H us qs → Rows H (vs ++ us) (rs ++ qs)
  | _, _, _, _, .nil, h => h
  | _, _, _, _, .cons a b, h => .cons a (b.app h)
theorem Rows.one {H : Hp} {v : V} {r : Rw} (h : RowT H v r) : Rows H [v] [r] := .cons h .nil
theorem Rows.len {H : Hp} : ∀ {vs : List V} {rs : List Rw}, Rows H vs rs → vs.length = rs.length
  | _, _, .nil => rfl
  | _, _, .cons _ t => by rw [List.length_cons, List.length_cons, t.len]
theorem Rows.get {H : Hp} : ∀ {vs : List V} {rs : List Rw} {i : Nat} {v : V}, Rows H vs rs → vs[i]? = some v → ∃ r, rs[i]? = some r ∧ RowT H v r
  | _, _, _, _, .nil, e => by simp at e
  | _, _, 0, _, .cons r _, e => by simp at e; subst e; exact ⟨_, rfl, r⟩
  | _, _, i + 1, v, .cons _ t, e => by
    obtain ⟨d, h1, h2⟩ := t.get (i := i) (v := v) (by simpa using e)
    exact ⟨d, by simpa using h1, h2⟩
/-- isinstance(x, T), by the thing's kind -/
theorem ev_isK {K : PySem.W.Frag} {σ : L2.St} {H : Hp} {ta : TE} {x : V} {T S : String} {b : Bool} (ha : Ev ta σ H x) (ty : ∀ H2, Ex H H2 → TyX K H2 x (.type S)) (hk : kitB S T = some b) : Ev (tCB (rIsi K) (tCons ta (tCons (tC (.ty T)) tNil))) σ H (.bl b) := fun H1 e Q q =>
  ha H1 e _ fun H2 e2 => ⟨x, .ty T, _, _, b, rfl, .ty T, ty H2 (e.trans e2), kit_ty hk, q H2 e2⟩
theorem q_asgG {te : TE} {g : TG} {tz : TS} {D : Ends} {σ : L2.St} {H : Hp} (h : te σ H fun x H1 => g x σ H1 fun σ2 H2 => tz D σ2 H2) : tSeq (tAsg te g) tz D σ H := h
def Tr.isHand : Tr → Bool
  | .hand _ => true
  | _ => false
theorem ev_isHand {K : PySem.W.Frag} {σ : L2.St} {H : Hp} {ta : TE} {x : V} {t : Tr} (ha : Ev ta σ H x) (h : TrV H x t) : Ev (tCB (rIsi K) (tCons ta (tCons (tC (.ty "str")) tNil))) σ H (.bl t.isHand) := by
  cases h with
  | hand n => exact ev_isK ha (fun H2 _ => .base (.str n)) (by decide +kernel : kitB "str" "str" = some true)
  | grp h1 h2 h3 => exact ev_isK ha (fun H2 e => .base (.tup (e _ _ h1))) (by decide +kernel : kitB "tuple" "str" = some false)
theorem filter_take {α : Type} {p : α → Bool} {rs : List α} {i : Nat} {r : α} (h : rs[i]? = some r) : (rs.take (i + 1)).filter p = (rs.take i).filter p ++ (if p r = true then [r] else []) := by
  rw [List.take_succ, h, List.filter_append]
  simp [List.filter_cons]
/-! ### names -/
def nameOk (s : Str) : Prop := 1 ≤ s.length ∧ s.length ≤ 8 ∧ ∀ c ∈ s.cps.toList, 97 ≤ c ∧ c ≤ 122
theorem q_parP {i j : Nat} {ta : TA} {tz : TS} {D : Ends} {σ : L2.St} {H : Hp} (h : ta σ H fun vs H1 => ∃ v w, vs = [v, w] ∧ tz D ((σ.set i (some v)).set j (some w)) H1) : tSeq (tPar i j ta) tz D σ H := h
theorem tYesQ {σ : L2.St} {H : Hp} {A B : Hp → Prop} (h : A H) : tYes σ H fun b H3 => if b = true then A H3 else B H3 := by
  show if true = true then A H else B H
  rw [if_pos rfl]
  exact h
/-! ### names of a tree -/
mutual
def Tr.nms : Tr → List Str
  | .hand n => [n]
  | .grp n _ ms => n :: nmss ms
def nmss : List Tr → List Str
  | [] => []
  | t :: ts => t.nms ++ nmss ts
end
mutual
theorem told_nms : ∀ (t : Tr) (p : List Str), (t.told p).map (·.1) = t.nms
  | .hand n, p => by simp [Tr.told, Tr.nms]
  | .grp n b ms, p => by simp [Tr.told, Tr.nms, tolds_nms ms]
theorem tolds_nms : ∀ (ts : List Tr) (p : List Str), (tolds ts p).map (·.1) = nmss ts
  | [], p => by simp [tolds, nmss]
  | t :: ts, p => by simp [tolds, nmss, told_nms t, tolds_nms ts]
end
theorem nms_len (t : Tr) : t.nms.length = t.size := by rw [← told_nms t [], List.length_map, told_len]
theorem sizes_app : ∀ (ts us : List Tr), sizes (ts ++ us) = sizes ts + sizes us
  | [], us => by simp [sizes]
  | t :: ts, us => by simp [sizes, sizes_app ts us]; omega
mutual
def Tr.ok : Tr → Prop
  | .hand _ => True
  | .grp _ b ms => 1 ≤ b ∧ b ≤ 999999999 ∧ ms ≠ [] ∧ oks ms
def oks : List Tr → Prop
  | [] => True
  | t :: ts => t.ok ∧ oks ts
end
/-- how many names a member takes at most -/
def mem : Nat → Nat → Nat
  | 0, _ => 1
  | d + 1, w => 1 + w * mem d w
/-- all stays but the hand and one list -/
def Kn (h l m : Addr) (H H' : Hp) : Prop := ∀ a o, a ≠ h → a ≠ l → a ≠ m → H a = some o → H' a = some o
theorem Kn.refl (h l m : Addr) (H : Hp) : Kn h l m H H := fun _ _ _ _ _ e => e
theorem Kn.trans {h l m : Addr} {H H1 H2 : Hp} (a : Kn h l m H H1) (b : Kn h l m H1 H2) : Kn h l m H H2 := fun x o n1 n2 n3 e => b x o n1 n2 n3 (a x o n1 n2 n3 e)
theorem Kn.kp {h l m : Addr} {H H1 : Hp} (a : Kp h l H H1) : Kn h l m H H1 := fun x o n1 n2 _ e => a x o n1 n2 e
theorem Kn.ex {h l m : Addr} {H H1 : Hp} (a : Ex H H1) : Kn h l m H H1 := fun x o _ _ _ e => a x o e
theorem Kn.put {h l m : Addr} {H H1 : Hp} {o : HO} (a : Kn h l m H H1) : Kn h l m H (upd H1 m o) := fun x u n1 n2 n3 e => by
  rw [upd_ne n3]
  exact a x u n1 n2 n3 e
theorem Kn.mut {h l m p : Addr} {H H1 : Hp} {o : HO} (a : Kn h l m H H1) (hp : H p = none) : Kn h l m H (upd H1 p o) := fun x u n1 n2 n3 e => by
  rw [upd_ne (fun z => by subst z; rw [hp] at e; cases e)]
  exact a x u n1 n2 n3 e
theorem Kn.tk {h l m : Addr} {H H1 : Hp} {ys : List V} (A : Hand H h l) (hm : H m = some (.lst ys)) (a : Kn h l m H H1) : TK H H1 := fun x xs e => by
  obtain ⟨n1, n2⟩ := A.off e (fun _ z => by cases z)
  exact a x _ n1 n2 (fun z => by subst z; rw [hm] at e; cases e) e
theorem q_forU {wi : TI} {g : TG} {tb tz : TS} {D : Ends} {σ : L2.St} {H : Hp} (h : wi σ H fun J H1 => ∃ W : Nat → Nat → L2.St → Hp → Prop, (∃ m, W 0 m σ H1) ∧ ∀ i m σ H, W i m σ H →
    (J.stop i H ∧ tz D σ H) ∨ (J.go i H ∧ ∃ N : L2.St → Hp → Prop, (∀ σ' H', N σ' H' → ∃ m', m' < m ∧ W (i + 1) m' σ' H') ∧ ∀ x H', J.yld i H x H' → g x σ H' fun σ2 H2 => tb { D with nx := N, ct := N, bk := tz D } σ2 H2)) : tSeq (tFor wi g tb) tz D σ H := h
end NL
/-! repr of what lies in the heap; plans as data -/
namespace NL
open PySem PySem.Spec PyProof.Rows L2 Evl
theorem hu_r {k : Nat} {A : Around} (hr : Room k A) : A.units + 100 < cLine := by
  have := hr.un
  omega
section
variable {K : PySem.W.Frag} {σ : L2.St} {H : Hp} {ta te : TE}
theorem dpa_strs {H : Hp} : ∀ ns : List Str, DpAll K H (ns.map V.str) (ns.map PyData.str)
  | [] => .nil
  | n :: r => .cons (.str n) (dpa_strs r)
end
/-! ### how long a text is -/
/-! ### a plan as a datum -/
mutual
def Tr.dat : Tr → PyData
  | .hand n => .str n
  | .grp n b ms => .tuple [.str n, .int b, .tuple (dats ms)]
def dats : List Tr → List PyData
  | [] => []
  | t :: ts => t.dat :: dats ts
end
mutual
theorem trv_dp {K : PySem.W.Frag} {H : Hp} : ∀ (t : Tr) (v : V), TrV H v t → Dp K H v t.dat
  | .hand n, _, h => by cases h; simp only [Tr.dat]; exact .str n
  | .grp n b ms, _, h => by
    cases h with
    | grp h1 h2 h3 =>
      simp only [Tr.dat]
      exact .tup (st_of h1) (.cons (.str n) (.cons (.int b) (.cons (.tup (st_of h2) (trvs_dp ms _ h3)) .nil)))
theorem trvs_dp {K : PySem.W.Frag} {H : Hp} : ∀ (ts : List Tr) (vs : List V), TrVs H vs ts → DpAll K H vs (dats ts)
  | [], _, h => by cases h; simp only [dats]; exact .nil
  | t :: ts, _, h => by
    cases h with
    | cons h1 h2 =>
      simp only [dats]
      exact .cons (trv_dp t _ h1) (trvs_dp ts _ h2)
end
theorem ok_lay {n : Str} (h : nameOk n) : PyData.strOk n = true := by
  unfold PyData.strOk
  rw [Array.all_eq_true']
  intro c hc
  have := h.2.2 c (by simpa using hc)
  simp
  omega
/-! ### what waits: a tree with the path around it -/
def QV (H : Hp) (v : V) (r : Tr × List Str) : Prop := ∃ a pa x, v = .ref a ∧ H a = some (.tup [x, .ref pa]) ∧ TrV H x r.1 ∧ H pa = some (.tup (r.2.map V.str))
inductive Queue (H : Hp) : List V → List (Tr × List Str) → Prop
  | nil : Queue H [] []
  | cons {v : V} {vs : List V} {r : Tr × List Str} {rs : List (Tr × List Str)} : QV H v r → Queue H vs rs → Queue H (v :: vs) (r :: rs)
theorem QV.tk {H H' : Hp} {v : V} {r : Tr × List Str} (k : TK H H') (h : QV H v r) : QV H' v r := by
  obtain ⟨a, pa, x, e, h1, h2, h3⟩ := h
  exact ⟨a, pa, x, e, k _ _ h1, trv_tk k _ _ h2, k _ _ h3⟩
theorem Queue.tk {H H' : Hp} (k : TK H H') : ∀ {vs : List V} {rs : List (Tr × List Str)}, Queue H vs rs → Queue H' vs rs
  | _, _, .nil => .nil
  | _, _, .cons a b => .cons (a.tk k) (b.tk k)
theorem Queue.app {H : Hp} : ∀ {vs us : List V} {rs qs : List (Tr × List Str)}, Queue H vs rs → Queue H us qs → Queue H (vs ++ us) (rs ++ qs)
  | _, _, _, _, .nil, h => h
  | _, _, _, _, .cons a b, h => .cons a (b.app h)
theorem Queue.len {H : Hp} : ∀ {vs : List V} {rs : List (Tr × List Str)}, Queue H vs rs → vs.length = rs.length
  | _, _, .nil => rfl
  | _, _, .cons _ t => by rw [List.length_cons, List.length_cons, t.len]
theorem s_asgP {te : TE} {D : Ends} {σ : L2.St} {H : Hp} {i : Nat} (h : te σ H fun v H1 => D.nx (σ.set i (some v)) H1) : tAsg te (gName i) D σ H := h
def rTup (K : PySem.W.Frag) : List V → Hp → VK → Prop := fun xs H Q => ∃ p ys, xs = [.ref p] ∧ ((SqL K H p ys ∧ ∀ l, H l = none → Q (.ref l) (upd H l (.tup ys))) ∨ (SqT K H p ys ∧ Q (.ref p) H))
theorem tupleK {X : Cx} {K : PySem.W.Frag} (h : X.K = K) : CallR X (.type "tuple") (rTup K) := by subst h; exact call_tuple_of
end NL
/-! data with dicts in them (what a dict holds is left aside), and what a plan is among them -/
namespace NL
open PySem L2 Evl
mutual
inductive Dx (K : PySem.W.Frag) (H : Hp) : V → PyData → Prop
  | non : Dx K H .non .none
  | bl (b : Bool) : Dx K H (.bl b) (.bool b)
  | int (i : Int) : Dx K H (.int i) (.int i)
  | str (x : Str) : Dx K H (.str x) (.str x)
  | lst {a : Addr} {xs : List V} {ds : List PyData} : SqL K H a xs → DxAll K H xs ds → Dx K H (.ref a) (.list ds)
  | tup {a : Addr} {xs : List V} {ds : List PyData} : SqT K H a xs → DxAll K H xs ds → Dx K H (.ref a) (.tuple ds)
  | dct {a : Addr} {kvs : List (Key × V)} {ks : List (PyData × PyData)} : H a = some (.dK kvs) → Dx K H (.ref a) (.dict ks)
inductive DxAll (K : PySem.W.Frag) (H : Hp) : List V → List PyData → Prop
  | nil : DxAll K H [] []
  | cons {v : V} {vs : List V} {d : PyData} {ds : List PyData} : Dx K H v d → DxAll K H vs ds → DxAll K H (v :: vs) (d :: ds)
end
mutual
theorem dx_of {K : PySem.W.Frag} {H H' : Hp} (el : ∀ a xs, SqL K H a xs → SqL K H' a xs) (et : ∀ a xs, SqT K H a xs → SqT K H' a xs) (ed : ∀ a kvs, H a = some (.dK kvs) → ∃ kvs', H' a = some (.dK kvs')) : ∀ (d : PyData) (v : V), Dx K H v d → Dx K H' v d
  | .none, _, h => by cases h; exact .non
  | .bool b, _, h => by cases h; exact .bl b
  | .int i, _, h => by cases h; exact .int i
  | .str x, _, h => by cases h; exact .str x
  | .list ds, _, h => by
    cases h with
    | lst hs ha => exact .lst (el _ _ hs) (dxa_of el et ed ds _ ha)
  | .tuple ds, _, h => by
    cases h with
    | tup hs ha => exact .tup (et _ _ hs) (dxa_of el et ed ds _ ha)
  | .dict kvs, _, h => by
    cases h with
    | dct hd =>
      obtain ⟨kvs', hd'⟩ := ed _ _ hd
      exact .dct hd'
theorem dxa_of {K : PySem.W.Frag} {H H' : Hp} (el : ∀ a xs, SqL K H a xs → SqL K H' a xs) (et : ∀ a xs, SqT K H a xs → SqT K H' a xs) (ed : ∀ a kvs, H a = some (.dK kvs) → ∃ kvs', H' a = some (.dK kvs')) : ∀ (ds : List PyData) (vs : List V), DxAll K H vs ds → DxAll K H' vs ds
  | [], _, h => by cases h; exact .nil
  | d :: ds, _, h => by
    cases h with
    | cons h1 h2 => exact .cons (dx_of el et ed d _ h1) (dxa_of el et ed ds _ h2)
end
theorem dx_mono {K : PySem.W.Frag} {H H' : Hp} {v : V} {d : PyData} (e : Ex H H') (h : Dx K H v d) : Dx K H' v d := dx_of (fun _ _ => ex_l e) (fun _ _ => ex_t e) (fun a kvs z => ⟨kvs, e _ _ z⟩) d v h
theorem dxa_mono {K : PySem.W.Frag} {H H' : Hp} {vs : List V} {ds : List PyData} (e : Ex H H') (h : DxAll K H vs ds) : DxAll K H' vs ds := dxa_of (fun _ _ => ex_l e) (fun _ _ => ex_t e) (fun a kvs z => ⟨kvs, e _ _ z⟩) ds vs h
mutual
theorem dx_dp {K : PySem.W.Frag} {H : Hp} : ∀ (d : PyData) (v : V), Dp K H v d → Dx K H v d
  | .none, _, h => by cases h; exact .non
  | .bool b, _, h => by cases h; exact .bl b
  | .int i, _, h => by cases h; exact .int i
  | .str x, _, h => by cases h; exact .str x
  | .list ds, _, h => by
    cases h with
    | lst hs ha => exact .lst hs (dxa_dp ds _ ha)
  | .tuple ds, _, h => by
    cases h with
    | tup hs ha => exact .tup hs (dxa_dp ds _ ha)
  | .dict kvs, _, h => by cases h
theorem dxa_dp {K : PySem.W.Frag} {H : Hp} : ∀ (ds : List PyData) (vs : List V), DpAll K H vs ds → DxAll K H vs ds
  | [], _, h => by cases h; exact .nil
  | d :: ds, _, h => by
    cases h with
    | cons h1 h2 => exact .cons (dx_dp d _ h1) (dxa_dp ds _ h2)
end
theorem dxa_len {K : PySem.W.Frag} {H : Hp} : ∀ {vs : List V} {ds : List PyData}, DxAll K H vs ds → vs.length = ds.length
  | _, _, .nil => rfl
  | _, _, .cons _ t => by rw [List.length_cons, List.length_cons, dxa_len t]
theorem dxa_get {K : PySem.W.Frag} {H : Hp} : ∀ {vs : List V} {ds : List PyData} {i : Nat} {v : V}, DxAll K H vs ds → vs[i]? = some v → ∃ d, ds[i]? = some d ∧ Dx K H v d
  | _, _, _, _, .nil, e => by simp at e
  | _, _, 0, _, .cons r _, e => by simp at e; subst e; exact ⟨_, rfl, r⟩
  | _, _, i + 1, v, .cons _ t, e => by
    obtain ⟨d, h1, h2⟩ := dxa_get (i := i) (v := v) t (by simpa using e)
    exact ⟨d, by simpa using h1, h2⟩
theorem dx_ty {K : PySem.W.Frag} {H : Hp} {v : V} {d : PyData} (h : Dx K H v d) : TyX K H v (.type (tyN d)) := by
  cases h with
  | non => exact .base .non
  | bl b => exact .base (.bl b)
  | int i => exact .base (.int i)
  | str x => exact .base (.str x)
  | lst hs _ =>
    rcases hs with (h | ⟨o, h⟩) | ⟨o, its, n, h, c, _⟩
    · exact .base (.lst h)
    · exact .base (.frz h)
    · exact .kList h c
  | tup hs _ =>
    rcases hs with (h | ⟨o, h⟩) | ⟨o, its, n, h, c, _⟩
    · exact .base (.tup h)
    · exact .fTuple h
    · exact .kTuple h c
  | dct h => exact .base (.dK h)
theorem ev_isX {K : PySem.W.Frag} {σ : L2.St} {H : Hp} {ta : TE} {x : V} {d : PyData} {T : String} {b : Bool} (ha : Ev ta σ H x) (hd : Dx K H x d) (hk : kitB (tyN d) T = some b) : Ev (tCB (rIsi K) (tCons ta (tCons (tC (.ty T)) tNil))) σ H (.bl b) := fun H1 e Q q =>
  ha H1 e _ fun H2 e2 => ⟨x, .ty T, _, _, b, rfl, .ty T, dx_ty (dx_mono (e.trans e2) hd), kit_ty hk, q H2 e2⟩
/-! ### names, plans -/
def nameB (s : Str) : Bool := decide (1 ≤ s.length) && decide (s.length ≤ 8) && s.cps.toList.all fun c => decide (c ∈ ("abcdefghijklmnopqrstuvwxyz" : Str).cps.toList)
def isNm : PyData → Bool
  | .str s => nameB s
  | _ => false
mutual
def fitM : PyData → List Str → Option (List Str)
  | .str s, seen => if nameB s = true ∧ s ∉ seen then some (seen ++ [s]) else none
  | .tuple [.str n, .int b, .tuple ms], seen => if 1 ≤ b ∧ ms ≠ [] ∧ nameB n = true ∧ n ∉ seen then fitMs ms (seen ++ [n]) else none
  | _, _ => none
def fitMs : List PyData → List Str → Option (List Str)
  | [], seen => some seen
  | d :: ds, seen => match fitM d seen with
    | none => none
    | some s => fitMs ds s
end
/-- as a group by itself -/
def fitG (d : PyData) (seen : List Str) : Option (List Str) := match d with
  | .str _ => none
  | d => fitM d seen
def planB (d : PyData) : Bool := (fitG d []).isSome
/-- what is a group by its form -/
def formB : PyData → Bool
  | .tuple [_, .int b, .tuple ms] => decide (1 ≤ b) && !ms.isEmpty
  | _ => false
mutual
def nodes : PyData → Nat
  | .tuple ds => nodess ds + 1
  | .list ds => nodess ds + 1
  | _ => 1
def nodess : List PyData → Nat
  | [] => 0
  | d :: ds => nodes d + nodess ds
end
/-- all but the dict at sd stays -/
def KD (sd : Addr) (H H' : Hp) : Prop := ∀ a o, a ≠ sd → H a = some o → H' a = some o
theorem KD.trans {sd : Addr} {H H1 H2 : Hp} (a : KD sd H H1) (b : KD sd H1 H2) : KD sd H H2 := fun x o n e => b x o n (a x o n e)
theorem KD.ex {sd : Addr} {H H1 : Hp} (a : Ex H H1) : KD sd H H1 := fun x o _ e => a x o e
abbrev ky (n : Str) : Key × V := (Sum.inr n, .bl true)
theorem val_ky {n : Str} : ∀ {ns : List Str}, (valV (ns.map ky) (Sum.inr n)).isSome = decide (n ∈ ns)
  | [] => by simp [valV]
  | m :: ns => by
    by_cases e : m = n
    · subst e
      rw [List.map_cons, valV_pos rfl]
      simp
    · rw [List.map_cons, valV_neg (fun z => e (Sum.inr.inj z)), val_ky]
      have : decide (n ∈ m :: ns) = decide (n ∈ ns) := decide_eq_decide.mpr ⟨fun h => by rcases List.mem_cons.mp h with h | h; exact absurd h.symm e; exact h, fun h => List.mem_cons_of_mem _ h⟩
      rw [this]
theorem put_ky {n : Str} {ns : List Str} (h : n ∉ ns) : putK (ns.map ky) (Sum.inr n) (.bl true) = (ns ++ [n]).map ky := by
  unfold putK
  rw [valV_any, val_ky, decide_eq_false h]
  simp
/-- a comprehension over a text's signs -/
theorem el_lcS {σ : L2.St} {H : Hp} {z : Str} {tl te : TE} {j : Nat} {vs : List Nat} (g : Nat → V) (src : Ev tl σ H (.str z)) (few : z.cps.size ≤ 40000) (clean : ∀ x, wipe ((wipe σ vs).set j (some x)) vs = wipe σ vs)
    (give : ∀ (i : Nat) (c : Nat) H1, Ex H H1 → z.cps[i]? = some c → Ev te ((wipe σ vs).set j (some (.str ⟨#[c]⟩))) H1 (g i)) : EvL (tLc (iStr tl) (gName j) tYes te vs) σ H ((List.range z.cps.size).map g) := by
  intro H0 e0 Q next
  refine src H0 e0 _ fun H1 e1 => ?_
  refine ⟨z, rfl, fun made fresh => ?_⟩
  refine lc_it (walk_str (z := z)) (Cw H1 (fun _ => true) g made) ⟨fresh, Ex.new fresh, upd_same⟩ (fun _ _ _ _ => trivial) ?turn ?done
  case turn =>
    intro i x H2 H3 lt inv y
    obtain ⟨rfl, c, hc, rfl⟩ := y
    exact ⟨clean _, cw_turn inv (by omega) et_yes (fun _ => give i c H1 (e0.trans e1) hc)⟩
  case done =>
    intro H2 inv
    have h2 := inv.2.2
    rw [given_all] at h2
    exact next made H2 (fresh_back e1 inv.1) (e1.trans inv.2.1) h2
mutual
def shorts : PyData → Prop
  | .str s => s.length ≤ 1000000
  | .tuple ds => shortss ds
  | .list ds => shortss ds
  | _ => True
def shortss : List PyData → Prop
  | [] => True
  | d :: ds => shorts d ∧ shortss ds
end
theorem q_notB {te : TE} {tu tz : TS} {D : Ends} {σ : L2.St} {H : Hp} (h : te σ H fun x H1 => ∃ c, x = .bl c ∧ if (!c) = true then tu { D with nx := tz D } σ H1 else tz D σ H1) : tSeq (tIfS (tNot (tB te)) tu tNext) tz D σ H := h
theorem dxa3 {K : PySem.W.Frag} {H : Hp} {xs : List V} {d f g : PyData} (h : DxAll K H xs [d, f, g]) : ∃ x y z, xs = [x, y, z] ∧ Dx K H x d ∧ Dx K H y f ∧ Dx K H z g := by
  cases h with
  | cons h1 t =>
    cases t with
    | cons h2 t =>
      cases t with
      | cons h3 t =>
        cases t
        exact ⟨_, _, _, rfl, h1, h2, h3⟩
end NL
/-! all names of a plan, as a datum -/
namespace NL
open PySem L2 Evl
mutual
def allM : PyData → Option (List Str)
  | .str s => if nameB s = true then some [s] else none
  | .tuple [.str n, .int b, .tuple ms] => if 1 ≤ b ∧ ms ≠ [] ∧ nameB n = true then (match allMs ms with | none => none | some r => some (n :: r)) else none
  | _ => none
def allMs : List PyData → Option (List Str)
  | [] => some []
  | d :: ds => match allM d with
    | none => none
    | some a => match allMs ds with
      | none => none
      | some b => some (a ++ b)
end
def allG (d : PyData) : Option (List Str) := match d with
  | .str _ => none
  | d => allM d
def within (o : Option (List Str)) (seen : List Str) : Option (List Str) := match o with
  | none => none
  | some ns => if ns.Nodup ∧ ∀ n ∈ ns, n ∉ seen then some (seen ++ ns) else none
mutual
theorem fit_all (d : PyData) (seen : List Str) : fitM d seen = within (allM d) seen := by
  unfold fitM allM
  split
  · rename_i s
    simp only
    by_cases h1 : nameB s = true
    · by_cases h2 : s ∈ seen
      · rw [if_neg (fun h => h.2 h2), if_pos h1]
        simp only [within]
        rw [if_neg (fun h => h.2 s (List.mem_singleton.mpr rfl) h2)]
      · rw [if_pos ⟨h1, h2⟩, if_pos h1]
        simp only [within]
        rw [if_pos ⟨by simp, fun n hn => by rw [List.mem_singleton.mp hn]; exact h2⟩]
    · rw [if_neg (fun h => h1 h.1), if_neg h1]
      rfl
  · rename_i n b ms
    simp only
    by_cases h1 : 1 ≤ b ∧ ms ≠ [] ∧ nameB n = true
    · rw [if_pos h1]
      by_cases h2 : n ∈ seen
      · rw [if_neg (fun h => h.2.2.2 h2)]
        cases hm : allMs ms with
        | none => rfl
        | some r =>
          simp only [within]
          rw [if_neg (fun h => h.2 n (List.mem_cons_self ..) h2)]
      · rw [if_pos ⟨h1.1, h1.2.1, h1.2.2, h2⟩, fits_all ms (seen ++ [n])]
        cases hm : allMs ms with
        | none => rfl
        | some r =>
          simp only [within]
          by_cases h3 : r.Nodup ∧ ∀ x ∈ r, x ∉ seen ++ [n]
          · rw [if_pos h3, if_pos]
            · simp
            · refine ⟨List.nodup_cons.mpr ⟨fun z => h3.2 n z (by simp), h3.1⟩, fun x hx => ?_⟩
              rcases List.mem_cons.mp hx with rfl | hx
              · exact h2
              · exact fun z => h3.2 x hx (List.mem_append_left _ z)
          · rw [if_neg h3, if_neg]
            intro h4
            have h5 := List.nodup_cons.mp h4.1
            refine h3 ⟨h5.2, fun x hx z => ?_⟩
            rcases List.mem_append.mp z with z | z
            · exact h4.2 x (List.mem_cons_of_mem _ hx) z
            · rw [List.mem_singleton.mp z] at hx
              exact h5.1 hx
    · rw [if_neg (fun h => h1 ⟨h.1, h.2.1, h.2.2.1⟩), if_neg h1]
      rfl
  · rename_i h1 h2
    split
    · exact absurd rfl (h1 _)
    · exact absurd rfl (h2 _ _ _)
    · rfl
termination_by sizeOf d
theorem fits_all (ds : List PyData) (seen : List Str) : fitMs ds seen = within (allMs ds) seen := by
  cases ds with
  | nil =>
    simp only [fitMs, allMs, within]
    rw [if_pos ⟨by simp, fun n hn => by cases hn⟩]
    simp
  | cons d ds =>
    simp only [fitMs, allMs]
    rw [fit_all d seen]
    cases ha : allM d with
    | none => rfl
    | some a =>
      simp only [within]
      by_cases h1 : a.Nodup ∧ ∀ n ∈ a, n ∉ seen
      · rw [if_pos h1]
        simp only
        rw [fits_all ds (seen ++ a)]
        cases hb : allMs ds with
        | none => rfl
        | some b =>
          simp only [within]
          by_cases h2 : b.Nodup ∧ ∀ n ∈ b, n ∉ seen ++ a
          · rw [if_pos h2, if_pos]
            · simp
            · refine ⟨List.nodup_append.mpr ⟨h1.1, h2.1, fun x hx y hy e => ?_⟩, fun x hx => ?_⟩
              · subst e
                exact h2.2 x hy (List.mem_append_right _ hx)
              · rcases List.mem_append.mp hx with hx | hx
                · exact h1.2 x hx
                · exact fun z => h2.2 x hx (List.mem_append_left _ z)
          · rw [if_neg h2, if_neg]
            intro h3
            have h4 := List.nodup_append.mp h3.1
            refine h2 ⟨h4.2.1, fun x hx z => ?_⟩
            rcases List.mem_append.mp z with z | z
            · exact h3.2 x (List.mem_append_right _ hx) z
            · exact h4.2.2 x z x hx rfl
      · rw [if_neg h1]
        simp only
        cases hb : allMs ds with
        | none => rfl
        | some b =>
          simp only
          rw [if_neg]
          intro h3
          exact h1 ⟨(List.nodup_append.mp h3.1).1, fun x hx => h3.2 x (List.mem_append_left _ hx)⟩
termination_by sizeOf ds
end
def uniqueB (o : Option (List Str)) : Bool := match o with
  | none => false
  | some ns => decide ns.Nodup
theorem plan_unique (d : PyData) : planB d = uniqueB (allG d) := by
  have main : ∀ d, (fitM d []).isSome = uniqueB (allM d) := fun d => by
    rw [fit_all]
    cases allM d with
    | none => rfl
    | some ns =>
      simp only [within, uniqueB]
      by_cases h : ns.Nodup
      · rw [if_pos ⟨h, fun n _ => by simp⟩, decide_eq_true h]
        rfl
      · rw [if_neg (fun z => h z.1), decide_eq_false h]
        rfl
  cases d with
  | str s => rfl
  | _ => exact main _
end NL
/-! a list that is extended by a tuple, a list as a test; the names of a plan from a pile of what waits -/
namespace NL
open PySem L2 Evl
theorem list_extend_tup (l : Addr) (items : Array Value) (n : Nat) (b : Addr) (o : Obj) (items2 : Array Value) (n2 : Nat) (hc : o.cls = .type "tuple") (hd : o.data = .seq items2 n2)
    (h0 : ¬(!items.isEmpty && Builtin.List.listTooLong (items.size + items2.size)) = true) (h1 : items.size ≤ sizeLine) (h2 : items.size + items2.size ≤ sizeLine + 1) :
    Meets (Builtin.«list.extend» ⟨[.ref l, .ref b], []⟩) (fun _ R s => s.heap.get? l = some ⟨.type "list", none, .seq items n, #[]⟩ ∧ s.heap.get? b = some o ∧ R (.ok (.ret Value.none)) { s with heap := s.heap.update l (Obj.mapSeq fun x => x ++ items2), toks := s.toks }) := by
  obtain ⟨c, dc, da, sl⟩ := o
  cases hc
  cases hd
  refine .of_wp fun prog w A R s h => ?_
  obtain ⟨hp, g, d, tk, os⟩ := s
  obtain ⟨hl, hb, h⟩ := h
  have f1 := AutoSeq1.idx_int
  have f2 := AutoSeq1.sub_tuple_tuple
  have f3 := AutoSeq1.sub_list_list
  have f4 := AutoSeq1.sub_tuple_list
  have f5 := AutoSeq1.sub_list_tuple
  have hz' : (items ++ items2).size ≤ sizeLine + 1 := by rw [Array.size_append]; exact h2
  wp_walk using (wpAny_updateSeq hl rfl (hz := h1) (_hz' := hz')), AutoSeq1.wpAny_loadPart' hl, AutoSeq1.wpAny_loadPart' hb
  exact ⟨_, rfl, h⟩
def rExtT (K : PySem.W.Frag) : V → List V → Hp → VK → Prop := fun x vs H Q => ∃ l b xs zs, x = .ref l ∧ vs = [.ref b] ∧ H l = some (.lst xs) ∧ SqT K H b zs ∧ xs.length + zs.length ≤ sizeLine ∧ Q .non (upd H l (.lst (xs ++ zs)))
theorem mt_extendT {X : Cx} {K : PySem.W.Frag} (hK : X.K = K) : MtM X "list.extend" (rExtT K) := by
  subst hK
  intro pins s σ H x vs v us Q I rx rv h
  obtain ⟨l, b, xs, zs, rfl, rfl, hH, hB, hz, q⟩ := h
  cases rx
  obtain ⟨u, rfl, ru⟩ := rv.one
  cases ru
  obtain ⟨z, its, n, r, hl, e⟩ := I.lstM hH
  obtain ⟨its2, r2, ⟨o, ho, hc, n2, hd⟩, hl2⟩ := I.tuple hB
  have q1 := r.length
  have q2 := r2.length
  have hsz : its.toArray.size + its2.toArray.size ≤ sizeLine := by rw [List.size_toArray, List.size_toArray]; omega
  have hlong : ¬ (!its.toArray.isEmpty && Builtin.List.listTooLong (its.toArray.size + its2.toArray.size)) = true := by
    rw [notLongL hsz, Bool.and_false]
    exact Bool.false_ne_true
  refine call_meets F.slot_list_extend ⟨_, e, rfl⟩ F.entry_list_extend (F.args_list_extend_2 _ _)
    (list_extend_tup l its.toArray n b o its2.toArray n2 hc hd hlong (by rw [List.size_toArray]; omega) (by omega)) ⟨e, ho, ?_⟩
  refine ⟨.non, _, I.lset (its' := its ++ its2) hH e (by simp) (r.append r2) ?_, rfl, q⟩
  rw [List.length_append]
  omega
def tTru (K : PySem.W.Frag) (te : TE) : TT := fun σ H Q => te σ H fun x H' => ∃ k, TruV K x H' k ∧ Q k H'
theorem truK {X : Cx} {K : PySem.W.Frag} {a : Expr} {ta : TE} (hK : X.K = K) (ha : PE X a ta) (he : ∀ whole, isTrue a X.env whole = (do let v ← whole; standAt a.pos; holding [v] (truthy v))) : PT X a (tTru K ta) := by
  subst hK
  exact pt_truth ha he
theorem et_truL {K : PySem.W.Frag} {te : TE} {σ : L2.St} {H : Hp} {l : Addr} {xs : List V} (h : Ev te σ H (.ref l)) (hl : H l = some (.lst xs)) : EvT (tTru K te) σ H (!xs.isEmpty) := fun H1 e Q q =>
  h H1 e _ fun H2 e2 => ⟨!xs.isEmpty, Or.inl ⟨xs, sq_of ((e.trans e2) _ _ hl), rfl⟩, q H2 e2⟩
/-! ### what waits, the last one first -/
/-- a member's own name, and what is in it -/
def hdM : PyData → Option (Str × List PyData)
  | .str s => some (s, [])
  | .tuple [.str n, .int b, .tuple ms] => if 1 ≤ b ∧ ms ≠ [] then some (n, ms) else none
  | _ => none
def goesB (d : PyData) (ns : List Str) : Bool := match hdM d with
  | none => false
  | some (n, _) => nameB n && decide (n ∉ ns)
theorem allM_other {d : PyData} (h1 : ∀ s, d ≠ .str s) (h2 : ∀ n b ms, d ≠ .tuple [.str n, .int b, .tuple ms]) : allM d = none := by
  unfold allM
  split
  · exact (h1 _ rfl).elim
  · exact (h2 _ _ _ rfl).elim
  · rfl
theorem hdM_other {d : PyData} (h1 : ∀ s, d ≠ .str s) (h2 : ∀ n b ms, d ≠ .tuple [.str n, .int b, .tuple ms]) : hdM d = none := by
  unfold hdM
  split
  · exact (h1 _ rfl).elim
  · exact (h2 _ _ _ rfl).elim
  · rfl
theorem allM_grp (n : Str) (b : Int) (ms : List PyData) : allM (.tuple [.str n, .int b, .tuple ms]) = if 1 ≤ b ∧ ms ≠ [] ∧ nameB n = true then (match allMs ms with | none => none | some r => some (n :: r)) else none := by
  rw [allM]
  all_goals (cases allMs ms <;> rfl)
theorem hdM_grp (n : Str) (b : Int) (ms : List PyData) : hdM (.tuple [.str n, .int b, .tuple ms]) = if 1 ≤ b ∧ ms ≠ [] then some (n, ms) else none := by
  rw [hdM]
def allH : Option (Str × List PyData) → Option (List Str)
  | none => none
  | some (n, ms) => if nameB n = true then (match allMs ms with | none => none | some r => some (n :: r)) else none
theorem allM_hd (d : PyData) : allM d = allH (hdM d) := by
  by_cases c1 : ∃ s, d = .str s
  · obtain ⟨s, rfl⟩ := c1
    rw [allM, hdM, allH, allMs]
  by_cases c2 : ∃ n b ms, d = .tuple [.str n, .int b, .tuple ms]
  · obtain ⟨n, b, ms, rfl⟩ := c2
    rw [allM_grp, hdM_grp]
    by_cases h1 : 1 ≤ b ∧ ms ≠ []
    · rw [if_pos h1, allH]
      by_cases h2 : nameB n = true
      · rw [if_pos ⟨h1.1, h1.2, h2⟩, if_pos h2]
      · rw [if_neg (fun h => h2 h.2.2), if_neg h2]
    · rw [if_neg (fun h => h1 ⟨h.1, h.2.1⟩), if_neg h1, allH]
  rw [allM_other (fun s z => c1 ⟨s, z⟩) (fun n b ms z => c2 ⟨n, b, ms, z⟩), hdM_other (fun s z => c1 ⟨s, z⟩) (fun n b ms z => c2 ⟨n, b, ms, z⟩), allH]
theorem allMs_app : ∀ (a b : List PyData), allMs (a ++ b) = match allMs a with
    | none => none
    | some x => match allMs b with
      | none => none
      | some y => some (x ++ y)
  | [], b => by
    simp only [List.nil_append, allMs]
    cases allMs b <;> rfl
  | d :: a, b => by
    simp only [List.cons_append, allMs]
    rw [allMs_app a b]
    cases allM d with
    | none => rfl
    | some x =>
      cases allMs a with
      | none => rfl
      | some y =>
        cases allMs b with
        | none => rfl
        | some z => simp
def pileB (ds : List PyData) (ns : List Str) : Bool := (within (allMs ds) ns).isSome
theorem pile_nil (ns : List Str) : pileB [] ns = true := by
  simp [pileB, allMs, within]
theorem within_some {o : Option (List Str)} {ns : List Str} : (within o ns).isSome = true ↔ ∃ l, o = some l ∧ l.Nodup ∧ ∀ n ∈ l, n ∉ ns := by
  cases o with
  | none => simp [within]
  | some l =>
    simp only [within]
    by_cases h : l.Nodup ∧ ∀ n ∈ l, n ∉ ns
    · rw [if_pos h]
      exact ⟨fun _ => ⟨l, rfl, h⟩, fun _ => rfl⟩
    · rw [if_neg h]
      exact ⟨fun z => (Bool.false_ne_true z).elim, fun ⟨l', e, h'⟩ => by cases e; exact (h h').elim⟩
theorem pile_stop {a : List PyData} {d : PyData} {ns : List Str} (h : goesB d ns = false) : pileB (a ++ [d]) ns = false := by
  rw [← Bool.not_eq_true]
  intro hp
  obtain ⟨l, e, nd, hn⟩ := within_some.mp hp
  rw [allMs_app] at e
  simp only [allMs] at e
  rw [allM_hd d] at e
  unfold goesB at h
  cases hd : hdM d with
  | none =>
    rw [hd, allH] at e
    cases hx : allMs a with
    | none => rw [hx] at e; cases e
    | some x => rw [hx] at e; cases e
  | some r =>
    obtain ⟨n, ms⟩ := r
    rw [hd] at e h
    rw [allH] at e
    simp only at h
    cases hx : allMs a with
    | none => rw [hx] at e; cases e
    | some x =>
      rw [hx] at e
      by_cases h1 : nameB n = true
      · rw [if_pos h1] at e
        cases hy : allMs ms with
        | none => rw [hy] at e; cases e
        | some y =>
          rw [hy] at e
          simp only [List.append_nil, Option.some.injEq] at e
          subst e
          rw [h1, Bool.true_and] at h
          exact hn n (by simp) (by simpa using h)
      · rw [if_neg h1] at e
        cases e
theorem pile_step {a ms : List PyData} {d : PyData} {n : Str} {ns : List Str} (hd : hdM d = some (n, ms)) (h1 : nameB n = true) (h2 : n ∉ ns) : pileB (a ++ [d]) ns = pileB (a ++ ms) (ns ++ [n]) := by
  have e1 : allMs [d] = match allMs ms with | none => none | some r => some (n :: r) := by
    simp only [allMs]
    rw [allM_hd d, hd, allH, if_pos h1]
    cases allMs ms with
    | none => rfl
    | some r => simp
  have hm : ∀ (x y : List Str), ((x ++ n :: y).Nodup ∧ ∀ m ∈ x ++ n :: y, m ∉ ns) ↔ ((x ++ y).Nodup ∧ ∀ m ∈ x ++ y, m ∉ ns ++ [n]) := by
    intro x y
    have hp : (x ++ n :: y).Perm (n :: (x ++ y)) := List.perm_middle
    rw [hp.nodup_iff, List.nodup_cons]
    constructor
    · rintro ⟨⟨a1, a2⟩, a3⟩
      refine ⟨a2, fun m hm => ?_⟩
      have := a3 m (hp.mem_iff.mpr (List.mem_cons_of_mem _ hm))
      intro z
      rcases List.mem_append.mp z with z | z
      · exact this z
      · rw [List.mem_singleton.mp z] at hm
        exact a1 hm
    · rintro ⟨a2, a3⟩
      refine ⟨⟨fun z => a3 n z (by simp), a2⟩, fun m hm => ?_⟩
      rcases List.mem_cons.mp (hp.mem_iff.mp hm) with z | z
      · rw [z]; exact h2
      · exact fun w => a3 m z (List.mem_append_left _ w)
  rw [Bool.eq_iff_iff]
  unfold pileB
  rw [within_some, within_some, allMs_app, allMs_app, e1]
  cases allMs a with
  | none => simp
  | some x =>
    cases allMs ms with
    | none => simp
    | some y =>
      simp only [Option.some.injEq]
      constructor
      · rintro ⟨l, rfl, h⟩
        exact ⟨_, rfl, (hm x y).mp h⟩
      · rintro ⟨l, rfl, h⟩
        exact ⟨_, rfl, (hm x y).mpr h⟩
theorem pile_plan {d : PyData} (h : ∀ s, d ≠ .str s) : planB d = pileB [d] [] := by
  unfold planB pileB
  have e : fitG d [] = fitM d [] := by
    cases d with
    | str s => exact (h s rfl).elim
    | _ => rfl
  rw [e, fit_all]
  simp only [allMs]
  cases allM d with
  | none => rfl
  | some l => simp
theorem nodess_app : ∀ (a b : List PyData), nodess (a ++ b) = nodess a + nodess b
  | [], b => by simp [nodess]
  | x :: a, b => by simp only [List.cons_append, nodess, nodess_app a b]; omega
theorem hdM_nodes {d : PyData} {n : Str} {ms : List PyData} (h : hdM d = some (n, ms)) : nodess ms + 1 ≤ nodes d := by
  unfold hdM at h
  split at h
  · cases h
    simp [nodess, nodes]
  · split at h
    · cases h
      simp only [nodes, nodess]
      omega
    · cases h
  · cases h
theorem hdM_shorts {d : PyData} {n : Str} {ms : List PyData} (h : hdM d = some (n, ms)) (s : shorts d) : shortss ms := by
  unfold hdM at h
  split at h
  · cases h
    trivial
  · split at h
    · cases h
      simp only [shorts, shortss] at s
      exact s.2.2.1
    · cases h
  · cases h
theorem shortss_app : ∀ {a b : List PyData}, shortss (a ++ b) ↔ shortss a ∧ shortss b
  | [], b => by simp [shortss]
  | x :: a, b => by simp only [List.cons_append, shortss, shortss_app (a := a), and_assoc]
theorem nodes_pos (d : PyData) : 1 ≤ nodes d := by cases d <;> simp [nodes]
theorem len_nodess : ∀ (ds : List PyData), ds.length ≤ nodess ds
  | [] => Nat.zero_le _
  | d :: ds => by
    have := nodes_pos d
    have := len_nodess ds
    simp only [List.length_cons, nodess]
    omega
theorem q_whenM {t : TT} {tu tz : TS} {D : Ends} {σ : L2.St} {H : Hp} {b : Bool} (M : L2.St → Hp → Prop) (h : EvT t σ H b) (k : ∀ σ' H', M σ' H' → tz D σ' H')
    (h1 : ∀ R : L2.St → Hp → Prop, (∀ σ' H', M σ' H' → R σ' H') → b = true → ∀ H1, Ex H H1 → tu { D with nx := R } σ H1) (h2 : b = false → ∀ H1, Ex H H1 → M σ H1) : tSeq (tIfS t tu tNext) tz D σ H :=
  q_when h (h1 (tz D) k) fun hb H1 e => k σ H1 (h2 hb H1 e)
theorem s_dropP {te : TE} {D : Ends} {σ : L2.St} {H : Hp} (h : te σ H fun v H1 => D.nx σ H1) : tDrop te D σ H := h
theorem dxa_snoc {K : PySem.W.Frag} {H : Hp} : ∀ {vs : List V} {ds : List PyData}, DxAll K H vs ds → ds ≠ [] → ∃ us x es d, vs = us ++ [x] ∧ ds = es ++ [d] ∧ DxAll K H us es ∧ Dx K H x d
  | _, _, .nil, h => (h rfl).elim
  | _, _, .cons (v := v) (vs := []) (d := d) (ds := ds) h1 h2, _ => by
    cases h2
    exact ⟨[], v, [], d, rfl, rfl, .nil, h1⟩
  | _, _, .cons (v := v) (vs := w :: vs) (d := d) (ds := ds) h1 h2, _ => by
    have hne : ds ≠ [] := by
      cases h2
      exact List.cons_ne_nil _ _
    obtain ⟨us, x, es, e, a1, a2, a3, a4⟩ := dxa_snoc h2 hne
    exact ⟨v :: us, x, d :: es, e, by rw [a1]; rfl, by rw [a2]; rfl, .cons h1 a3, a4⟩
theorem dxa_app {K : PySem.W.Frag} {H : Hp} {ws : List V} {es : List PyData} (h2 : DxAll K H ws es) : ∀ {vs : List V} {ds : List PyData}, DxAll K H vs ds → DxAll K H (vs ++ ws) (ds ++ es)
  | _, _, .nil => h2
  | _, _, .cons a b => .cons a (dxa_app h2 b)
end NL
/-! a comprehension with two for: what is in tuples of a tuple, one behind the other -/
namespace NL
open PySem L2 Evl
theorem piTK {X : Cx} {K : PySem.W.Frag} {tg e : Expr} {tl : TE} (hK : X.K = K) (he : PE X e tl) : PI X tg e (iTup K tl) := by
  subst hK
  exact pi_tup he
theorem notInSK {X : Cx} {K : PySem.W.Frag} (h : X.K = K) : OpR X (compareOp .NotIn) (rIn K true) := by subst h; exact op_notIn_seq
theorem plLK {X : Cx} {K : PySem.W.Frag} {tg e : Expr} {tl : TE} (hK : X.K = K) (he : PE X e tl) : PI X tg e (iList K tl) := by
  subst hK
  exact pi_list he
end NL
/-! sets of texts, made of a list or a tuple; how many are in them -/
namespace NL
open PySem PySem.Spec PyProof.Rows L2 Evl
/-- just these texts lie in the set at S, and as many as they are where all are unlike -/
def TextSet (P : Program) (w : World) (h : Heap) (S : Addr) (xs : List Str) : Prop := ∃ n, h.SetOf (strKind P w) S (fun k => decide (k ∈ xs)) n ∧ n ≤ xs.length ∧ (n = xs.length ↔ xs.Nodup)
theorem nodup_app {xs : List Str} {x : Str} : (xs ++ [x]).Nodup ↔ xs.Nodup ∧ x ∉ xs := by
  rw [List.nodup_append]
  constructor
  · rintro ⟨a, b, c⟩
    exact ⟨a, fun h => c x h x (List.mem_singleton.mpr rfl) rfl⟩
  · rintro ⟨a, b⟩
    exact ⟨a, by simp, fun y hy z hz e => by rw [List.mem_singleton.mp hz] at e; subst e; exact b hy⟩
theorem TextSet.at {P : Program} {w : World} {h h' : Heap} {S : Addr} {xs : List Str} (t : TextSet P w h S xs) (k : ∀ o, h.get? S = some o → h'.get? S = some o) : TextSet P w h' S xs := by
  obtain ⟨n, ⟨o, es, ep, tb, ho, rest⟩, r⟩ := t
  exact ⟨n, ⟨o, es, ep, tb, k _ ho, rest⟩, r⟩
section
variable {P : Program} {w : World} {A : Around} {R : Result → Shared → Prop} {J : Addr} {fp wr : List Addr} {G : Array GenState → Array GenState → Prop} {m : Nat} {V1 : Nat → Value → Prop} {St : Nat → Shared → Prop}
/-- what walks over texts lays them all into the set -/
theorem walk_into (W : WalksS P w A.in1 J fp wr G m V1 St) {S : Addr} (off : S ∉ fp) (xs : List Str) (len : xs.length = m) (few : m + 1 < scanBound) (text : ∀ i v, V1 i v → ∃ t, v = .str (xs.getD i Str.empty) t) :
    ∀ (left i : Nat) (s : Shared), i + left = m → St i s → TextSet P w s.heap S (xs.take i) → (∀ s', Moved (S :: wr) G s s' → TextSet P w s'.heap S xs → R (.ok (.ret .none)) s') →
      codeAny (model P w) A (.builtin "set.update.loop" ⟨[.ref S, .ref J], []⟩) R s := by
  have offw : S ∉ wr := fun z => off (W.sub _ z)
  have more : ∀ b ∈ wr, b ∈ S :: wr := fun b z => List.mem_cons_of_mem _ z
  intro left
  induction left with
  | zero =>
    intro i s hi here has fin
    have e : i = m := by omega
    subst e
    rw [List.take_of_length_le (by omega)] at has
    refine codeAny_builtin PyProof.Rows.F.entry_set_update_loop ?_
    rw [Around.under_plainId PyProof.Rows.F.plain_set_update_loop]
    change wpAny _ A.in1 (pyNext (.ref J) >>= _) _ _ _
    refine wpAny_bind (W.done s _ _ here fun s1 mv => ?_)
    change wpAny _ A.in1 (ret Value.none) _ _ _
    exact wpAny_pure (fin s1 (mv.mono more) (has.at fun o ho => mv.heap S o offw ho))
  | succ left again =>
    intro i s hi here has fin
    refine codeAny_builtin PyProof.Rows.F.entry_set_update_loop ?_
    rw [Around.under_plainId PyProof.Rows.F.plain_set_update_loop]
    change wpAny _ A.in1 (pyNext (.ref J) >>= _) _ _ _
    refine wpAny_bind (W.item i s _ _ (by omega) here fun v s1 hv next mv => ?_)
    obtain ⟨t, rfl⟩ := text i v hv
    have has1 := has.at (h' := s1.heap) fun o ho => mv.heap S o offw ho
    generalize hx : xs.getD i Str.empty = x
    have hlt : i < xs.length := by omega
    have tk1 : xs.take (i + 1) = xs.take i ++ [x] := by
      rw [← hx, List.getD_eq_getElem?_getD, List.getElem?_eq_getElem hlt, List.take_succ_eq_append_getElem hlt]
      rfl
    change wpAny _ A.in1 (holding [Value.str x t] (setAdd S (.str x t)) >>= _) _ _ _
    refine wpAny_bind (wpAny_holding ?_)
    unfold setAdd
    refine wpAny_holding (wpAny_bind ((strKind P w).pyHash (k := x) (strKind_is _ _ _ _) ?_))
    obtain ⟨n, hs, hn, hnd⟩ := has1
    have hl : (xs.take i).length = i := by rw [List.length_take]; omega
    refine wpAny_setAddHashed_of (knd := strKind P w) (s := { s1 with toks := s1.toks + 1 }) (strKind_is _ _ _ _) rfl hs (by omega) fun h2 but hs2 => ?_
    have has2 : TextSet P w h2 S (xs.take (i + 1)) := by
      rw [tk1]
      refine ⟨_, SetOf_congr hs2 (S' := fun k => decide (k ∈ xs.take i ++ [x])) (fun k => ?_) rfl, ?_, ?_⟩
      · simp
      · rw [List.length_append, List.length_singleton]
        split <;> omega
      · rw [nodup_app, List.length_append, List.length_singleton, ← hnd]
        by_cases hm : x ∈ xs.take i
        · rw [if_pos (decide_eq_true hm)]
          constructor
          · intro z
            omega
          · intro z
            exact absurd hm z.2
        · rw [if_neg (by simp [hm])]
          constructor
          · intro z
            exact ⟨by omega, hm⟩
          · intro z
            omega
    refine wpAny_pure ⟨plainId_quiet PyProof.Rows.F.plain_set_update_loop _, again (i + 1) _ (by omega) (W.frame _ s1 _ _ next (Nat.le_succ _) fun b z o e => ?_) has2 fun s2 mv2 has3 => ?_⟩
    · rw [but.2 b (fun y => off (y ▸ z))]
      exact e
    · refine fin s2 (Moved.trans W.gtrans ((mv.mono more).then_heap (Nat.le_succ _) fun b o z e => ?_) mv2) has3
      rw [but.2 b (fun y => z (y ▸ List.mem_cons_self))]
      exact e
end
/-- a set as it is made, with nothing in it -/
abbrev bareSet (led : Bool) : Obj := { cls := .type "set", dict := none, data := .set #[] 0 (.fresh 0 0 led) }
section
variable {P : Program} {w : World} {A : Around} {E : Value → Shared → Prop} {s : Shared} {l : Addr} {its : Array Value} {xs : List Str} {Q : Value → Shared → Prop}
theorem bare_has {h : Heap} {S : Addr} {led : Bool} (e : h.get? S = some (bareSet led)) : TextSet P w h S [] := by
  refine ⟨0, SetOf_congr (S' := fun k => decide (k ∈ ([] : List Str))) ((setObjOf_fresh (knd := strKind P w) led).setOf e (by decide)) (fun k => by simp) rfl, Nat.le_refl _, by simp⟩
/-- set(texts) of a list -/
theorem set_list (calm : A.handled = none) (hl : s.heap.IsList l its) (hx : StrsAre its.toList xs) (few : its.size + 1 < scanBound)
    (told : ∀ (h2 : Heap) (tk : Nat), TextSet P w h2 s.heap.objs.size xs → (∀ b o, b < s.heap.objs.size → s.heap.get? b = some o → h2.get? b = some o) → Q (.ref s.heap.objs.size) { s with heap := h2, toks := tk }) :
    wpAny (model P w) A (call (.type "set") [.ref l]) Q E s := by
  have made := PySem.F.called_set
  obtain ⟨top, rest, mro⟩ := made.mro
  have y1 := made.made
  have y2 := made.sub
  have y3 := made.notType
  have y4 := made.canCreate
  have y5 := PySem.F.typeCall_set_1 (.ref l)
  refine wpAny_call (codeAny_of_tree ?_)
  change wpAny _ _ (callAny (.type "set") _) _ _ _
  refine wpAny_pure ⟨Code.quiet_builtin _ (by decide +kernel), codeAny_builtin PySem.F.entry_type_call ?_⟩
  rw [Around.under_plain (weight_type_call_type "set" [.ref l] []) rfl]
  repeat (any_goals (first | assumption | wp_step))
  refine codeAny_mono (code_set_new_1 (.ref l) (E := E) (Q₁ := fun v s1 => ∃ led : Bool, v = .ref s.heap.objs.size ∧ s1 = { s with heap := s.heap.push (bareSet led) }) fun led => ⟨led, rfl, rfl⟩) fun r s1 got => ?_
  match r, got with
  | .error e, got => exact got
  | .ok .next, got => exact got.elim
  | .ok .brk, got => exact got.elim
  | .ok .cont, got => exact got.elim
  | .ok (.ret v), got =>
    obtain ⟨led, rfl, rfl⟩ := got
    have at1 : (s.heap.push (bareSet led)).get? s.heap.objs.size = some (bareSet led) := Heap.get?_push_size _ rfl
    have ty1 : Shared.TypeIs { s with heap := s.heap.push (bareSet led) } (.ref s.heap.objs.size) "set" := ⟨_, at1, rfl⟩
    have y6 := made.init.lookup
    have y7 := made.init.bind (.ref s.heap.objs.size)
    repeat (any_goals (first | assumption | wp_step))
    refine codeAny_mono (codeAny_call_builtin (R := wants (fun u s2 => u = .none ∧ ∃ h2 tk, s2 = { s with heap := h2, toks := tk } ∧ TextSet P w h2 s.heap.objs.size xs ∧ ∀ b o, b < s.heap.objs.size → s.heap.get? b = some o → h2.get? b = some o) E) made.init.plain PySem.F.entry_set_init (check_set_init_1 ty1 ?_)) fun r2 s2 got2 => ?_
    · obtain ⟨ob, at2, cl, nn, dt⟩ := hl
      obtain ⟨_, od, _, os⟩ := ob
      simp only at cl dt
      subst cl dt
      have at3 := Heap.get?_push_of_some (bareSet led) at2
      have y8 := PySem.F.sub_list_set
      have y9 := PySem.F.sub_list_frozenset
      have y0 : (Value.type "list" == Value.type "dict") = false := by decide
      have lst1 : (s.heap.push (bareSet led)).IsList l its := ⟨_, at3, rfl, nn, rfl⟩
      unfold Builtin.«set.__init__» noKeywords Builtin.Frozenset.updateFrom
      generalize hit : pyIter = it
      wp_walk
      subst hit
      refine wpAny_pyIter_list lst1 (wpAny_bind (wpAny_runValue ?_))
      have low : l < s.heap.objs.size := Heap.lt_size at2
      have apart : l ≠ (s.heap.push (bareSet led)).objs.size := by
        rw [Heap.size_push]
        exact Nat.ne_of_lt (Nat.lt_succ_of_lt low)
      have off : s.heap.objs.size ∉ [(s.heap.push (bareSet led)).objs.size, l] := by
        rw [Heap.size_push]
        simp only [List.mem_cons, List.not_mem_nil, or_false, not_or]
        exact ⟨Nat.ne_of_lt (Nat.lt_succ_self _), Nat.ne_of_gt low⟩
      have len : xs.length = its.size := by
        rw [← StrsAre.len_eq hx, Array.length_toList]
      refine walk_into ((Walks.list (by simp [calm]) _ l apart its).toS) off xs len few (fun i v hv => SS.strs_at hx i v (by rw [Array.getElem?_toList]; exact hv)) its.size 0 _ (by omega) ⟨⟨_, Heap.get?_push_size _ rfl, rfl, rfl⟩, lst1.push _⟩ ?first ?last
      case first =>
        exact bare_has (led := led) (Heap.get?_push_of_some _ at1)
      case last =>
        intro s3 mv has
        obtain ⟨h3, g3, d3, t3, o3⟩ := s3
        have e1 : g3 = s.gens := mv.gens
        have e2 : d3 = s.drawn := mv.drawn
        have e3 : o3 = s.os := mv.os
        subst e1 e2 e3
        change wpAny _ _ _ _ _ _
        refine wpAny_pure ?_
        change wpAny _ _ (ret Value.none) _ _ _
        refine wpAny_pure ⟨rfl, h3, t3, rfl, has, fun b o lt e => mv.heap b o ?_ (Heap.get?_push_of_some _ (Heap.get?_push_of_some _ e))⟩
        rw [Heap.size_push]
        simp only [List.mem_cons, List.not_mem_nil, or_false, not_or]
        exact ⟨Nat.ne_of_lt lt, Nat.ne_of_lt (Nat.lt_succ_of_lt lt)⟩
    · match r2, got2 with
      | .error e, got2 => exact got2
      | .ok .next, got2 => exact got2.elim
      | .ok .brk, got2 => exact got2.elim
      | .ok .cont, got2 => exact got2.elim
      | .ok (.ret u), got2 =>
        obtain ⟨rfl, h2, tk, rfl, has, old⟩ := got2
        repeat (any_goals (first | assumption | wp_step))
        exact told h2 tk has old
end
end NL
/-! sequences against empty ones; xs[::-1] of a tuple; data with their dicts, repr and str of them -/
namespace NL
open PySem PySem.Spec PyProof.Rows L2 Evl
section
variable {X : Cx} {K : PySem.W.Frag}
def rEqL0 (K : PySem.W.Frag) (f : Bool → Bool) : R2 := fun x y H Q => ∃ a b xs, x = .ref a ∧ y = .ref b ∧ SqL K H a xs ∧ SqL K H b [] ∧ Q (.bl (f xs.isEmpty)) H
theorem vals0 {us : List Value} (h : Vals [] us) : us = [] := by cases h; rfl
theorem vals_isE {xs : List V} {us : List Value} (h : Vals xs us) : us.isEmpty = xs.isEmpty := by
  cases h <;> rfl
theorem eqL0K (h : X.K = K) (hu : X.A.units < cLine) : OpR X (compareOp .Eq) (rEqL0 K id) := by
  subst h
  intro pins s σ H x y v u Q I rx ry told
  obtain ⟨a, b, xs, rfl, rfl, ha, hb, q⟩ := told
  cases rx
  cases ry
  obtain ⟨its, r1, p1, _⟩ := I.list ha
  obtain ⟨its2, r2, p2, _⟩ := I.list hb
  have e := vals0 r2
  subst e
  have ie := vals_isE r1
  cases its with
  | nil =>
    refine SeqAt.eq_listAt (e := fun _ => true) p1.isList p2.isList rfl hu (fun j _ h2 => absurd h2 (by simp)) ?_
    refine ⟨.bl xs.isEmpty, H, I, ?_, q⟩
    rw [← ie]
    rfl
  | cons i r =>
    refine SeqAt.eq_list_lengthsAt p1.isList p2.isList (by simp) hu ?_
    refine ⟨.bl xs.isEmpty, H, I, ?_, q⟩
    rw [← ie]
    rfl
end
/-! ### xs[::-1] of a tuple -/
/-! ### data with all that is in them -/
mutual
inductive Dy (K : PySem.W.Frag) (H : Hp) : V → PyData → Prop
  | non : Dy K H .non .none
  | bl (b : Bool) : Dy K H (.bl b) (.bool b)
  | int (i : Int) : Dy K H (.int i) (.int i)
  | str (x : Str) : Dy K H (.str x) (.str x)
  | lst {a : Addr} {xs : List V} {ds : List PyData} : H a = some (.lst xs) → DyAll K H xs ds → Dy K H (.ref a) (.list ds)
  | tup {a : Addr} {xs : List V} {ds : List PyData} : SqT K H a xs → DyAll K H xs ds → Dy K H (.ref a) (.tuple ds)
  | dct {a : Addr} : H a = some (.dK []) → Dy K H (.ref a) (.dict [])
  | dc1 {a : Addr} {z : Str} {v : V} {d : PyData} : H a = some (.dK [(Sum.inr z, v)]) → Dy K H v d → Dy K H (.ref a) (.dict [(.str z, d)])
inductive DyAll (K : PySem.W.Frag) (H : Hp) : List V → List PyData → Prop
  | nil : DyAll K H [] []
  | cons {v : V} {vs : List V} {d : PyData} {ds : List PyData} : Dy K H v d → DyAll K H vs ds → DyAll K H (v :: vs) (d :: ds)
end
mutual
theorem dy_mono {K : PySem.W.Frag} {H H' : Hp} (e : Ex H H') : ∀ {d : PyData} {v : V}, Dy K H v d → Dy K H' v d
  | .none, _, h => by cases h; exact .non
  | .bool b, _, h => by cases h; exact .bl b
  | .int i, _, h => by cases h; exact .int i
  | .str x, _, h => by cases h; exact .str x
  | .list ds, _, h => by
    cases h with
    | lst hs ha => exact .lst (e _ _ hs) (dya_mono e ha)
  | .tuple ds, _, h => by
    cases h with
    | tup hs ha => exact .tup (ex_t e hs) (dya_mono e ha)
  | .dict [], _, h => by
    cases h with
    | dct hd => exact .dct (e _ _ hd)
  | .dict [(.str z, d)], _, h => by
    cases h with
    | dc1 hd hv => exact .dc1 (e _ _ hd) (dy_mono e hv)
theorem dya_mono {K : PySem.W.Frag} {H H' : Hp} (e : Ex H H') : ∀ {ds : List PyData} {vs : List V}, DyAll K H vs ds → DyAll K H' vs ds
  | [], _, h => by cases h; exact .nil
  | d :: ds, _, h => by
    cases h with
    | cons h1 h2 => exact .cons (dy_mono e h1) (dya_mono e h2)
end
mutual
theorem dy_dx {K : PySem.W.Frag} {H : Hp} : ∀ {d : PyData} {v : V}, Dy K H v d → Dx K H v d
  | .none, _, h => by cases h; exact .non
  | .bool b, _, h => by cases h; exact .bl b
  | .int i, _, h => by cases h; exact .int i
  | .str x, _, h => by cases h; exact .str x
  | .list ds, _, h => by
    cases h with
    | lst hs ha => exact .lst (sq_of hs) (dya_dx ha)
  | .tuple ds, _, h => by
    cases h with
    | tup hs ha => exact .tup hs (dya_dx ha)
  | .dict kvs, _, h => by
    cases h with
    | dct hd => exact .dct hd
    | dc1 hd _ => exact .dct hd
theorem dya_dx {K : PySem.W.Frag} {H : Hp} : ∀ {ds : List PyData} {vs : List V}, DyAll K H vs ds → DxAll K H vs ds
  | [], _, h => by cases h; exact .nil
  | d :: ds, _, h => by
    cases h with
    | cons h1 h2 => exact .cons (dy_dx h1) (dya_dx h2)
end
theorem pairs_one {P : Program} {w : World} {es : List DictEntry} {q : Key × Value} (h : Pairs (mixKind P w) es [q]) : ∃ en : DictEntry, es = [en] ∧ (mixKind P w).is q.1 en.key = true ∧ en.val = q.2 := by
  cases h with
  | cons h1 h2 t =>
    cases t
    exact ⟨_, rfl, h1, h2⟩
theorem key_str {P : Program} {w : World} {z : Str} {v : Value} (h : (mixKind P w).is (Sum.inr z) v = true) : ∃ t, v = .str z t := by
  rcases keyIs_shape (k := Sum.inr z) (v := v) h with ⟨i, t, e, _⟩ | ⟨x, t, e, r⟩
  · cases e
  · cases e
    exact ⟨t, r⟩
/-- the modules' dict lies apart from all that is made here -/
def Sy (K : PySem.W.Frag) (H : Hp) : Prop := (∃ o, K.lookup sysModules = some o) ∨ ∃ o u, H sysModules = some (.frz o u)
theorem Sy.ex {K : PySem.W.Frag} {H H' : Hp} (h : Sy K H) (e : Ex H H') : Sy K H' := by
  rcases h with h | ⟨o, u, h⟩
  · exact Or.inl h
  · exact Or.inr ⟨o, u, e _ _ h⟩
theorem Sy.kp {K : PySem.W.Frag} {H H' : Hp} {h l : Addr} (y : Sy K H) (A : Hand H h l) (k : Kp h l H H') : Sy K H' := by
  rcases y with y | ⟨o, u, y⟩
  · exact Or.inl y
  · obtain ⟨n, m⟩ := A.off y (fun _ z => by cases z)
    exact Or.inr ⟨o, u, k _ _ n m y⟩
section
variable {X : Cx} {pins : List (Addr × Obj)} {σ : L2.St} {H : Hp} {s : Shared}
theorem Sy.ne (I : Inv X pins σ H s) (y : Sy X.K H) {a : Addr} {o : HO} (h : H a = some o) (no : ∀ ob u, o ≠ .frz ob u) : a ≠ sysModules := by
  intro e
  subst e
  rcases y with ⟨ob, y⟩ | ⟨ob, u, y⟩
  · have := (I.bs _ _ (I.mod.kin _ _ y)).2
    rw [h] at this
    cases this
  · rw [h] at y
    cases y
    exact no _ _ rfl
mutual
theorem Dy.reads (I : Inv X pins σ H s) (y : Sy X.K H) : ∀ (d : PyData) (v : V) (u : Value), Dy X.K H v d → RelV v u → ∃ as, Reads s.heap u d as ∧ sysModules ∉ as
  | .none, _, _, h, r => by
    cases h
    cases r
    exact ⟨_, .none, by simp⟩
  | .bool b, _, _, h, r => by
    cases h
    cases r
    exact ⟨_, .bool b, by simp⟩
  | .int i, _, _, h, r => by
    cases h
    obtain ⟨t, rfl⟩ := r
    exact ⟨_, .int i t, by simp⟩
  | .str x, _, _, h, r => by
    cases h
    obtain ⟨t, rfl⟩ := r
    exact ⟨_, .str x t, by simp⟩
  | .list ds, _, _, h, r => by
    cases h with
    | lst hs ha =>
      cases r
      have ne := Sy.ne I y hs (fun _ _ z => by cases z)
      obtain ⟨its, rv, ⟨o, n, ho, hc, _, hd⟩, _⟩ := I.list (sq_of hs)
      obtain ⟨as, hr, hn⟩ := Dy.readsAll I y ds _ its ha rv
      exact ⟨_, .list ho hc hd hr, by simp only [List.mem_cons, not_or]; exact ⟨fun z => ne z.symm, hn⟩⟩
  | .tuple ds, _, _, h, r => by
    cases h with
    | tup hs ha =>
      cases r
      obtain ⟨its, rv, ⟨o, ho, hc, n, hd⟩, _⟩ := I.tuple hs
      obtain ⟨as, hr, hn⟩ := Dy.readsAll I y ds _ its ha rv
      exact ⟨_, .tuple ho hc hd hr, hn⟩
  | .dict [(.str z, d)], _, _, h, r => by
    cases h with
    | dc1 hd hv =>
      cases r
      obtain ⟨_, low, vs, rel, o, es, ep, ho, hex, hdt, hks, hp, _⟩ := dk_of I.hok hd
      have ne : ¬ sysModules = _ := fun z => (beq_eq_false_iff_ne.mp low) z.symm
      obtain ⟨q, rfl, hq1, hq2⟩ : ∃ q : Key × Value, vs = [q] ∧ (Sum.inr z : Key) = q.1 ∧ RelV _ q.2 := by
        cases rel with
        | cons r t =>
          cases t
          exact ⟨_, rfl, r.1, r.2⟩
      obtain ⟨en, he, hk, hval⟩ : ∃ en : DictEntry, es.toList = [en] ∧ (mixKind X.prog X.w).is q.1 en.key = true ∧ en.val = q.2 := pairs_one hp
      have hkey : ∃ t, en.key = .str z t := by
        rw [← hq1] at hk
        exact key_str hk
      obtain ⟨t, hkey⟩ := hkey
      obtain ⟨as, rd, hn⟩ := Dy.reads I y d _ _ hv (by rw [← hval] at hq2; exact hq2)
      have rk : Reads s.heap en.key (.str z) [] := by
        rw [hkey]
        exact .str z t
      refine ⟨_, .dict (kvs := [(.str z, d)]) ho hex.1 hdt (by rw [he]; exact .cons rk .nil) (by rw [he]; exact .cons rd .nil), ?_⟩
      simp only [List.append_nil, List.mem_append, List.mem_cons, List.not_mem_nil, or_false, not_or]
      exact ⟨ne, hn⟩
  | .dict [], _, _, h, r => by
    cases h with
    | dct hd =>
      cases r
      obtain ⟨_, low, vs, rel, o, es, ep, ho, hex, hdt, _, hp, _⟩ := dk_of I.hok hd
      cases rel
      have e0 : es.toList = [] := by
        cases h0 : es.toList with
        | nil => rfl
        | cons e r => rw [h0] at hp; cases hp
      have ne : ¬ sysModules = _ := fun z => (beq_eq_false_iff_ne.mp low) z.symm
      refine ⟨_, .dict (kvs := []) (as := []) (bs := []) ho hex.1 hdt (by rw [e0]; exact .nil) (by rw [e0]; exact .nil), ?_⟩
      simp only [List.append_nil, List.mem_singleton]
      exact ne
theorem Dy.readsAll (I : Inv X pins σ H s) (y : Sy X.K H) : ∀ (ds : List PyData) (vs : List V) (us : List Value), DyAll X.K H vs ds → Vals vs us → ∃ as, ReadsAll s.heap us ds as ∧ sysModules ∉ as
  | [], _, _, h, r => by
    cases h
    cases r
    exact ⟨_, .nil, by simp⟩
  | d :: ds, _, _, h, r => by
    cases h with
    | cons h1 h2 =>
      cases r with
      | cons r1 r2 =>
        obtain ⟨as, q1, n1⟩ := Dy.reads I y d _ _ h1 r1
        obtain ⟨bs, q2, n2⟩ := Dy.readsAll I y ds _ _ h2 r2
        exact ⟨_, .cons q1 q2, by rw [List.mem_append]; exact fun z => z.elim n1 n2⟩
end
end
end NL
/-! how much a datum weighs, which signs and numbers are in it; what is set aside of a heap -/
namespace NL
open PySem PySem.Spec PyProof.Rows L2 Evl
def asc (x : Str) : Prop := ∀ c ∈ x.cps.toList, c < 128
theorem asc_lit {s : String} (h : s.toList.all (fun c => decide (c.toNat < 128)) = true) : asc (Str.ofString s) := fun c hc => by
  rw [signs_ofString] at hc
  obtain ⟨ch, h1, rfl⟩ := List.mem_map.mp hc
  exact of_decide_eq_true (List.all_eq_true.mp h ch h1)
mutual
def wt : PyData → Nat
  | .str s => 10 * s.length + 10
  | .int _ => 60
  | .list ds => wts ds + 10
  | .tuple ds => wts ds + 10
  | .dict kvs => wtk kvs + 10
  | _ => 10
def wts : List PyData → Nat
  | [] => 0
  | d :: ds => wt d + wts ds
def wtk : List (PyData × PyData) → Nat
  | [] => 0
  | (k, v) :: r => wt k + wt v + wtk r
end
mutual
def okD (B : Nat) : PyData → Prop
  | .str s => asc s
  | .int i => i.natAbs ≤ B
  | .list ds => okDs B ds
  | .tuple ds => okDs B ds
  | .dict kvs => okK B kvs
  | _ => True
def okDs (B : Nat) : List PyData → Prop
  | [] => True
  | d :: ds => okD B d ∧ okDs B ds
def okK (B : Nat) : List (PyData × PyData) → Prop
  | [] => True
  | (k, v) :: r => okD B k ∧ okD B v ∧ okK B r
end
mutual
theorem ok_up {B C : Nat} (h : B ≤ C) : ∀ d : PyData, okD B d → okD C d
  | .none, _ => by simp [okD]
  | .bool b, _ => by simp [okD]
  | .int i, k => by simp only [okD] at k ⊢; omega
  | .str s, k => by simp only [okD] at k ⊢; exact k
  | .list ds, k => by simp only [okD] at k ⊢; exact oks_up h ds k
  | .tuple ds, k => by simp only [okD] at k ⊢; exact oks_up h ds k
  | .dict kvs, k => by simp only [okD] at k ⊢; exact okk_up h kvs k
theorem oks_up {B C : Nat} (h : B ≤ C) : ∀ ds : List PyData, okDs B ds → okDs C ds
  | [], _ => by simp [okDs]
  | d :: ds, k => by simp only [okDs] at k ⊢; exact ⟨ok_up h d k.1, oks_up h ds k.2⟩
theorem okk_up {B C : Nat} (h : B ≤ C) : ∀ kvs : List (PyData × PyData), okK B kvs → okK C kvs
  | [], _ => by simp [okK]
  | (a, b) :: r, k => by simp only [okK] at k ⊢; exact ⟨ok_up h a k.1, ok_up h b k.2.1, okk_up h r k.2.2⟩
end
mutual
theorem nodes_wt : ∀ d : PyData, 10 * nodes d ≤ wt d
  | .none => by simp [nodes, wt]
  | .bool b => by simp [nodes, wt]
  | .int i => by simp [nodes, wt]
  | .str s => by simp only [nodes, wt]; omega
  | .list ds => by have := nodess_wt ds; simp only [nodes, wt]; omega
  | .tuple ds => by have := nodess_wt ds; simp only [nodes, wt]; omega
  | .dict kvs => by simp only [nodes, wt]; omega
theorem nodess_wt : ∀ ds : List PyData, 10 * nodess ds ≤ wts ds
  | [] => by simp [nodess, wts]
  | d :: ds => by have := nodes_wt d; have := nodess_wt ds; simp only [nodess, wts]; omega
end
mutual
theorem shorts_wt {W : Nat} (hW : W ≤ 10000000) : ∀ d : PyData, wt d ≤ W → shorts d
  | .none, _ => by simp [shorts]
  | .bool b, _ => by simp [shorts]
  | .int i, _ => by simp [shorts]
  | .str s, h => by simp only [wt] at h; simp only [shorts]; omega
  | .list ds, h => by simp only [wt] at h; simp only [shorts]; exact shortss_wt hW ds (by omega)
  | .tuple ds, h => by simp only [wt] at h; simp only [shorts]; exact shortss_wt hW ds (by omega)
  | .dict kvs, _ => by simp [shorts]
theorem shortss_wt {W : Nat} (hW : W ≤ 10000000) : ∀ ds : List PyData, wts ds ≤ W → shortss ds
  | [], _ => by simp [shortss]
  | d :: ds, h => by simp only [wts] at h; simp only [shortss]; exact ⟨shorts_wt hW d (by omega), shortss_wt hW ds (by omega)⟩
end
theorem len_wts : ∀ ds : List PyData, 10 * ds.length ≤ wts ds
  | [] => by simp
  | d :: ds => by
    have := len_wts ds
    have := nodes_wt d
    have : 1 ≤ nodes d := by cases d <;> simp [nodes]
    simp only [List.length_cons, wts]
    omega
end NL
/-! some datum: a value of which it is known how much it weighs, how deep it is, what signs and numbers it has; terms that make such ones while a hand draws -/
namespace NL
open PySem PySem.Spec PyProof.Rows L2 Evl
def aside (H : Hp) (S : List Addr) : Hp := fun a => if a ∈ S then none else H a
theorem aside_at {H : Hp} {S : List Addr} {a : Addr} (h : a ∉ S) : aside H S a = H a := if_neg h
theorem aside_in {H : Hp} {S : List Addr} {a : Addr} (h : a ∈ S) : aside H S a = none := if_pos h
/-! ### a datum, and several -/
def G (K : PySem.W.Frag) (H : Hp) (v : V) (W N D B : Nat) : Prop := ∃ d, Dy K H v d ∧ wt d ≤ W ∧ nodes d ≤ N ∧ d.depth ≤ D ∧ okD B d
def GL (K : PySem.W.Frag) (H : Hp) (xs : List V) (W N D B : Nat) : Prop := ∃ ds, DyAll K H xs ds ∧ wts ds ≤ W ∧ nodess ds ≤ N ∧ PyData.depthAll ds ≤ D ∧ okDs B ds
section
variable {K : PySem.W.Frag} {H H' : Hp} {v : V} {xs ys : List V} {W N D B W' N' D' B' : Nat}
theorem G.mono (g : G K H v W N D B) (e : Ex H H') : G K H' v W N D B := by
  obtain ⟨d, h, r⟩ := g
  exact ⟨d, dy_mono e h, r⟩
theorem G.up (g : G K H v W N D B) (hW : W ≤ W') (hN : N ≤ N') (hD : D ≤ D') (hB : B ≤ B') : G K H v W' N' D' B' := by
  obtain ⟨d, h, h1, hn, h2, h3⟩ := g
  exact ⟨d, h, by omega, by omega, by omega, ok_up hB d h3⟩
theorem GL.mono (g : GL K H xs W N D B) (e : Ex H H') : GL K H' xs W N D B := by
  obtain ⟨d, h, r⟩ := g
  exact ⟨d, dya_mono e h, r⟩
theorem GL.up (g : GL K H xs W N D B) (hW : W ≤ W') (hN : N ≤ N') (hD : D ≤ D') (hB : B ≤ B') : GL K H xs W' N' D' B' := by
  obtain ⟨d, h, h1, hn, h2, h3⟩ := g
  exact ⟨d, h, by omega, by omega, by omega, oks_up hB d h3⟩
theorem GL.nil : GL K H [] W N D B := ⟨[], .nil, by simp [wts], by simp [nodess], by simp [PyData.depthAll], by simp [okDs]⟩
theorem GL.cons (a : G K H v W N D B) (b : GL K H xs W' N' D B) : GL K H (v :: xs) (W + W') (N + N') D B := by
  obtain ⟨d, h, h1, hn, h2, h3⟩ := a
  obtain ⟨ds, k, k1, kn, k2, k3⟩ := b
  exact ⟨d :: ds, .cons h k, by simp only [wts]; omega, by simp only [nodess]; omega, by simp only [PyData.depthAll]; omega, by simp only [okDs]; exact ⟨h3, k3⟩⟩
theorem dya_app : ∀ {xs ys : List V} {ds es : List PyData}, DyAll K H xs ds → DyAll K H ys es → DyAll K H (xs ++ ys) (ds ++ es)
  | _, _, _, _, .nil, h => h
  | _, _, _, _, .cons a b, h => .cons a (dya_app b h)
theorem wts_app : ∀ (ds es : List PyData), wts (ds ++ es) = wts ds + wts es
  | [], es => by simp [wts]
  | d :: ds, es => by simp only [List.cons_append, wts, wts_app ds es]; omega
theorem nds_app : ∀ (ds es : List PyData), nodess (ds ++ es) = nodess ds + nodess es
  | [], es => by simp [nodess]
  | d :: ds, es => by simp only [List.cons_append, nodess, nds_app ds es]; omega
theorem dep_app : ∀ (ds es : List PyData), PyData.depthAll (ds ++ es) = max (PyData.depthAll ds) (PyData.depthAll es)
  | [], es => by simp [PyData.depthAll]
  | d :: ds, es => by simp only [List.cons_append, PyData.depthAll, dep_app ds es]; omega
theorem okDs_app : ∀ (ds es : List PyData), okDs B (ds ++ es) ↔ okDs B ds ∧ okDs B es
  | [], es => by simp [okDs]
  | d :: ds, es => by simp only [List.cons_append, okDs, okDs_app ds es, and_assoc]
theorem GL.app (a : GL K H xs W N D B) (b : GL K H ys W' N' D B) : GL K H (xs ++ ys) (W + W') (N + N') D B := by
  obtain ⟨ds, h, h1, hn, h2, h3⟩ := a
  obtain ⟨es, k, k1, kn, k2, k3⟩ := b
  exact ⟨ds ++ es, dya_app h k, by rw [wts_app]; omega, by rw [nds_app]; omega, by rw [dep_app]; omega, (okDs_app ds es).mpr ⟨h3, k3⟩⟩
theorem dya_split : ∀ {xs ys : List V} {ds : List PyData}, DyAll K H (xs ++ ys) ds → ∃ a b, ds = a ++ b ∧ DyAll K H xs a ∧ DyAll K H ys b
  | [], ys, ds, h => ⟨[], ds, rfl, .nil, h⟩
  | x :: xs, ys, _, .cons h t => by
    obtain ⟨a, b, rfl, h1, h2⟩ := dya_split t
    exact ⟨_ :: a, b, rfl, .cons h h1, h2⟩
theorem GL.left (g : GL K H (xs ++ ys) W N D B) : GL K H xs W N D B := by
  obtain ⟨ds, h, h1, hn, h2, h3⟩ := g
  obtain ⟨a, b, rfl, k1, k2⟩ := dya_split h
  rw [wts_app] at h1
  rw [nds_app] at hn
  rw [dep_app] at h2
  exact ⟨a, k1, by omega, by omega, by omega, ((okDs_app a b).mp h3).1⟩
theorem GL.right (g : GL K H (xs ++ ys) W N D B) : GL K H ys W N D B := by
  obtain ⟨ds, h, h1, hn, h2, h3⟩ := g
  obtain ⟨a, b, rfl, k1, k2⟩ := dya_split h
  rw [wts_app] at h1
  rw [nds_app] at hn
  rw [dep_app] at h2
  exact ⟨b, k2, by omega, by omega, by omega, ((okDs_app a b).mp h3).2⟩
theorem GL.take (g : GL K H xs W N D B) (n : Nat) : GL K H (xs.take n) W N D B := GL.left (ys := xs.drop n) (by rw [List.take_append_drop]; exact g)
theorem GL.drop (g : GL K H xs W N D B) (n : Nat) : GL K H (xs.drop n) W N D B := GL.right (xs := xs.take n) (by rw [List.take_append_drop]; exact g)
theorem GL.get (g : GL K H xs W N D B) (h : v ∈ xs) : G K H v W N D B := by
  obtain ⟨a, b, rfl⟩ := List.append_of_mem h
  obtain ⟨ds, h, h1, hn, h2, h3⟩ := g.right (xs := a)
  cases h with
  | cons d r =>
    simp only [wts] at h1
    simp only [nodess] at hn
    simp only [PyData.depthAll] at h2
    simp only [okDs] at h3
    exact ⟨_, d, by omega, by omega, by omega, h3.1⟩
theorem GL.len (g : GL K H xs W N D B) : 10 * xs.length ≤ W := by
  obtain ⟨ds, h, h1, _⟩ := g
  have := len_wts ds
  have e : xs.length = ds.length := dxa_len (dya_dx h)
  omega
theorem G.tup {a : Addr} (hs : SqT K H a xs) (g : GL K H xs W N D B) : G K H (.ref a) (W + 10) (N + 1) (D + 1) B := by
  obtain ⟨ds, h, h1, hn, h2, h3⟩ := g
  exact ⟨.tuple ds, .tup hs h, by simp only [wt]; omega, by simp only [nodes]; omega, by simp only [PyData.depth]; omega, by simp only [okD]; exact h3⟩
theorem G.lst {a : Addr} (hs : H a = some (.lst xs)) (g : GL K H xs W N D B) : G K H (.ref a) (W + 10) (N + 1) (D + 1) B := by
  obtain ⟨ds, h, h1, hn, h2, h3⟩ := g
  exact ⟨.list ds, .lst hs h, by simp only [wt]; omega, by simp only [nodes]; omega, by simp only [PyData.depth]; omega, by simp only [okD]; exact h3⟩
theorem G.non : G K H .non 10 1 0 B := ⟨_, .non, by simp [wt], by simp [nodes], by simp [PyData.depth], by simp [okD]⟩
theorem G.bl (b : Bool) : G K H (.bl b) 10 1 0 B := ⟨_, .bl b, by simp [wt], by simp [nodes], by simp [PyData.depth], by simp [okD]⟩
theorem G.int {i : Int} (h : i.natAbs ≤ B) : G K H (.int i) 60 1 0 B := ⟨_, .int i, by simp [wt], by simp [nodes], by simp [PyData.depth], by simp only [okD]; exact h⟩
theorem G.str {z : Str} {n : Nat} (hn : 10 * z.length + 10 ≤ n) (h : asc z) : G K H (.str z) n 1 0 B := ⟨_, .str z, by simp only [wt]; exact hn, by simp [nodes], by simp [PyData.depth], by simp only [okD]; exact h⟩
theorem G.dct {a : Addr} (h : H a = some (.dK [])) : G K H (.ref a) 10 1 1 B := ⟨_, .dct h, by simp [wt, wtk], by simp [nodes], by simp [PyData.depth, PyData.depthKv], by simp [okD, okK]⟩
theorem G.dc1 {a : Addr} {z : Str} (h : H a = some (.dK [(Sum.inr z, v)])) (az : asc z) (g : G K H v W N D B) : G K H (.ref a) (10 * z.length + 10 + W + 10) (N + 1) (D + 1) B := by
  obtain ⟨d, hd, h1, hn, h2, h3⟩ := g
  refine ⟨_, .dc1 h hd, by simp only [wt, wtk]; omega, by simp only [nodes]; omega, by simp only [PyData.depth, PyData.depthKv]; omega, by simp only [okD, okK]; exact ⟨az, h3, trivial⟩⟩
end
/-! ### terms that give some datum while a hand draws -/
section
variable {K : PySem.W.Frag} {h l : Addr}
def EG (K : PySem.W.Frag) (h l : Addr) (W N D B : Nat) (te : TE) (σ : L2.St) (H : Hp) : Prop := ∀ H1, Kp h l H H1 → Hand H1 h l → ∀ Q : VK, (∀ v H2, Kp h l H1 H2 → Hand H2 h l → G K (aside H2 [h, l]) v W N D B → Q v H2) → te σ H1 Q
def GT (K : PySem.W.Frag) (h l : Addr) (W N D B : Nat) (te : TE) (σ : L2.St) (H : Hp) : Prop := ∀ H1, Kp h l H H1 → Hand H1 h l → ∀ Q : VK, (∀ p xs H2, Kp h l H1 H2 → Hand H2 h l → SqT K (aside H2 [h, l]) p xs → GL K (aside H2 [h, l]) xs W N D B → Q (.ref p) H2) → te σ H1 Q
variable {σ : L2.St} {H : Hp} {te tb : TE} {ta : TA} {W N D B W' N' D' B' n m : Nat}
theorem EG.up (g : EG K h l W N D B te σ H) (hW : W ≤ W') (hN : N ≤ N') (hD : D ≤ D') (hB : B ≤ B') : EG K h l W' N' D' B' te σ H := fun H1 k A Q q => g H1 k A Q fun v H2 k2 A2 g2 => q v H2 k2 A2 (g2.up hW hN hD hB)
theorem GT.up (g : GT K h l W N D B te σ H) (hW : W ≤ W') (hN : N ≤ N') (hD : D ≤ D') (hB : B ≤ B') : GT K h l W' N' D' B' te σ H := fun H1 k A Q q => g H1 k A Q fun p xs H2 k2 A2 s g2 => q p xs H2 k2 A2 s (g2.up hW hN hD hB)
end
end NL
/-! truths among numbers: True + 1, True - 1, 0 - True -/
namespace NL
open PySem PySem.Spec PyProof.Rows L2 Evl
/-! ### steps with tuples, in the heap beside the hand -/
section
variable {K : PySem.W.Frag} {h l a b : Addr} {xs ys : List V} {H : Hp} {Q : VK}
theorem cut_to {i : Nat} (hi : i ≤ xs.length) : cutV xs none (some (i : Int)) = xs.take i := by
  unfold cutV
  rw [HT.sIx_none, HT.sIx_nat, Nat.min_eq_left hi]
  simp
theorem cut_from {i : Nat} : cutV xs (some (i : Int)) none = xs.drop i := by
  unfold cutV
  rw [HT.sIx_none, HT.sIx_nat]
  by_cases hi : i ≤ xs.length
  · rw [Nat.min_eq_left hi, List.take_of_length_le (by rw [List.length_drop]; omega)]
  · rw [Nat.min_eq_right (by omega), List.drop_of_length_le (Nat.le_refl _), List.drop_of_length_le (by omega)]
    simp
theorem at_nat {i : Nat} {v : V} (h : xs[i]? = some v) : atI xs (i : Int) = some v := by
  have hi := (List.getElem?_eq_some_iff.mp h).1
  unfold atI ixN
  rw [if_pos (by omega), if_pos (by omega)]
  simpa using h
end
/-! ### a place in a datum -/
/-- what is led to -/
def there : PyData → List Nat → PyData
  | d, [] => d
  | .tuple ds, i :: is => there (ds.getD i .none) is
  | d, _ :: _ => d
theorem hu_e {k : Nat} {A : Around} (hr : Room k A) : A.units < cLine := by
  have := hr.un
  omega
theorem hu_e64 {k : Nat} {A : Around} (hr : Room k A) : A.units + 64 < cLine := by
  have := hr.un
  omega
end NL
/-! rows of a plan with the groups' bounds -/
namespace NL
open PySem L2 Evl
/-- name, a group's bound, the groups around it -/
abbrev Rb := Str × Option Int × List Str
def obV : Option Int → V
  | none => .non
  | some b => .int b
mutual
def Tr.rows : Tr → List Str → List Rb
  | .hand n, p => [(n, none, p)]
  | .grp n b ms, p => (n, some b, p) :: rowss ms (n :: p)
def rowss : List Tr → List Str → List Rb
  | [], _ => []
  | t :: ts, p => t.rows p ++ rowss ts p
end
def plainR (r : Rb) : Rw := (r.1, r.2.1.isSome, r.2.2)
mutual
theorem rows_told : ∀ (t : Tr) (p : List Str), (t.rows p).map plainR = t.told p
  | .hand n, p => by simp [Tr.rows, Tr.told, plainR]
  | .grp n b ms, p => by simp [Tr.rows, Tr.told, plainR, rowss_told ms]
theorem rowss_told : ∀ (ts : List Tr) (p : List Str), (rowss ts p).map plainR = tolds ts p
  | [], p => by simp [rowss, tolds]
  | t :: ts, p => by simp [rowss, tolds, rows_told t, rowss_told ts]
end
theorem rows_len (t : Tr) (p : List Str) : (t.rows p).length = t.size := by rw [← told_len t p, ← rows_told, List.length_map]
theorem rowss_len (ts : List Tr) (p : List Str) : (rowss ts p).length = sizes ts := by rw [← tolds_len ts p, ← rowss_told, List.length_map]
theorem rowss_take : ∀ (ts : List Tr) (i : Nat) (t : Tr) (p : List Str), ts[i]? = some t → rowss (ts.take (i + 1)) p = rowss (ts.take i) p ++ t.rows p
  | [], _, _, _, h => by simp at h
  | u :: ts, 0, t, p, h => by
    simp at h
    subst h
    simp [rowss]
  | u :: ts, i + 1, t, p, h => by
    have ih := rowss_take ts i t p (by simpa using h)
    simp only [List.take_succ_cons, rowss]
    rw [ih, List.append_assoc]
/-- a row with its bound, in the heap -/
def RowB (H : Hp) (v : V) (r : Rb) : Prop := ∃ a pa, v = .ref a ∧ H a = some (.tup [.str r.1, obV r.2.1, .ref pa]) ∧ H pa = some (.tup (r.2.2.map V.str))
inductive RowsB (H : Hp) : List V → List Rb → Prop
  | nil : RowsB H [] []
  | cons {v : V} {vs : List V} {r : Rb} {rs : List Rb} : RowB H v r → RowsB H vs rs → RowsB H (v :: vs) (r :: rs)
theorem RowB.tk {H H' : Hp} {v : V} {r : Rb} (k : TK H H') (h : RowB H v r) : RowB H' v r := by
  obtain ⟨a, pa, e, h1, h2⟩ := h
  exact ⟨a, pa, e, k _ _ h1, k _ _ h2⟩
theorem RowsB.tk {H H' : Hp} (k : TK H H') : ∀ {vs : List V} {rs : List Rb}, RowsB H vs rs → RowsB H' vs rs
  | _, _, .nil => .nil
  | _, _, .cons a b => .cons (a.tk k) (b.tk k)
theorem RowsB.app {H : Hp} : ∀ {vs us : List V} {rs qs : List Rb}, RowsB H vs rs → RowsB H us qs → RowsB H (vs ++ us) (rs ++ qs)
  | _, _, _, _, .nil, h => h
  | _, _, _, _, .cons a b, h => .cons a (b.app h)
theorem RowsB.one {H : Hp} {v : V} {r : Rb} (h : RowB H v r) : RowsB H [v] [r] := .cons h .nil
theorem RowsB.len {H : Hp} : ∀ {vs : List V} {rs : List Rb}, RowsB H vs rs → vs.length = rs.length
  | _, _, .nil => rfl
  | _, _, .cons _ t => by rw [List.length_cons, List.length_cons, t.len]
theorem RowsB.get {H : Hp} : ∀ {vs : List V} {rs : List Rb} {i : Nat} {v : V}, RowsB H vs rs → vs[i]? = some v → ∃ r, rs[i]? = some r ∧ RowB H v r
  | _, _, _, _, .nil, e => by simp at e
  | _, _, 0, _, .cons r _, e => by simp at e; subst e; exact ⟨_, rfl, r⟩
  | _, _, i + 1, v, .cons _ t, e => by
    obtain ⟨d, h1, h2⟩ := t.get (i := i) (v := v) (by simpa using e)
    exact ⟨d, by simpa using h1, h2⟩
def handsOf (t : Tr) : List Str := ((t.told []).filter fun r => !r.2.1).map (·.1)
def groupsOf (t : Tr) : List Str := ((t.told []).filter fun r => r.2.1).map (·.1)
theorem hands_rows (t : Tr) : handsOf t = ((t.rows []).filter fun r => !r.2.1.isSome).map (·.1) := by
  unfold handsOf
  rw [← rows_told, List.filter_map, List.map_map]
  rfl
theorem groups_rows (t : Tr) : groupsOf t = ((t.rows []).filter fun r => r.2.1.isSome).map (·.1) := by
  unfold groupsOf
  rw [← rows_told, List.filter_map, List.map_map]
  rfl
end NL
/-! trees: groups in them, paths, names told for others -/
namespace NL
open PySem L2 Evl
mutual
theorem told_under : ∀ (t : Tr) (q p : List Str), t.told (q ++ p) = (t.told q).map fun r => (r.1, r.2.1, r.2.2 ++ p)
  | .hand n, q, p => by simp [Tr.told]
  | .grp n b ms, q, p => by
    simp only [Tr.told, List.map_cons]
    rw [show n :: (q ++ p) = (n :: q) ++ p from rfl, tolds_under ms (n :: q) p]
theorem tolds_under : ∀ (ts : List Tr) (q p : List Str), tolds ts (q ++ p) = (tolds ts q).map fun r => (r.1, r.2.1, r.2.2 ++ p)
  | [], q, p => by simp [tolds]
  | t :: ts, q, p => by
    simp only [tolds, List.map_append]
    rw [told_under t, tolds_under ts]
end
theorem hands_in (t : Tr) : ∀ x ∈ handsOf t, x ∈ t.nms := fun x hx => by
  unfold handsOf at hx
  obtain ⟨r, h1, rfl⟩ := List.mem_map.mp hx
  rw [← told_nms t []]
  exact List.mem_map.mpr ⟨r, (List.mem_filter.mp h1).1, rfl⟩
theorem groups_in (t : Tr) : ∀ x ∈ groupsOf t, x ∈ t.nms := fun x hx => by
  unfold groupsOf at hx
  obtain ⟨r, h1, rfl⟩ := List.mem_map.mp hx
  rw [← told_nms t []]
  exact List.mem_map.mpr ⟨r, (List.mem_filter.mp h1).1, rfl⟩
theorem part_nodup : ∀ {rs : List Rw}, (rs.map (·.1)).Nodup → (((rs.filter fun r => !r.2.1).map (·.1)) ++ ((rs.filter fun r => r.2.1).map (·.1))).Nodup
  | [], _ => by simp
  | r :: rs, nd => by
    rw [List.map_cons, List.nodup_cons] at nd
    have ih := part_nodup nd.2
    have out : ∀ f : Rw → Bool, r.1 ∉ (rs.filter f).map (·.1) := fun f h => by
      obtain ⟨s, h1, h2⟩ := List.mem_map.mp h
      exact nd.1 (List.mem_map.mpr ⟨s, (List.mem_filter.mp h1).1, h2⟩)
    cases hr : r.2.1 with
    | false =>
      simp only [List.filter_cons, hr, Bool.not_false, if_true, Bool.false_eq_true, if_false, List.map_cons, List.cons_append]
      refine List.nodup_cons.mpr ⟨fun h => ?_, ih⟩
      rcases List.mem_append.mp h with h | h
      · exact out _ h
      · exact out _ h
    | true =>
      simp only [List.filter_cons, hr, Bool.not_true, if_true, Bool.false_eq_true, if_false, List.map_cons]
      rw [List.nodup_append] at ih ⊢
      refine ⟨ih.1, List.nodup_cons.mpr ⟨out _, ih.2.1⟩, fun a ha b hb => ?_⟩
      rcases List.mem_cons.mp hb with rfl | hb
      · exact fun e => out _ (e ▸ ha)
      · exact ih.2.2 a ha b hb
theorem names_nodup {t : Tr} (h : t.nms.Nodup) : (handsOf t ++ groupsOf t).Nodup := part_nodup (by rw [told_nms]; exact h)
theorem part_len : ∀ rs : List Rw, ((rs.filter fun r => !r.2.1).map (·.1)).length + ((rs.filter fun r => r.2.1).map (·.1)).length = rs.length
  | [] => rfl
  | r :: rs => by
    have ih := part_len rs
    simp only [List.length_map] at ih ⊢
    cases hr : r.2.1 with
    | false => simp only [List.filter_cons, hr, Bool.not_false, if_true, Bool.false_eq_true, if_false, List.length_cons]; omega
    | true => simp only [List.filter_cons, hr, Bool.not_true, if_true, Bool.false_eq_true, if_false, List.length_cons]; omega
theorem names_len (t : Tr) : (handsOf t ++ groupsOf t).length = t.size := by
  rw [List.length_append]
  unfold handsOf groupsOf
  rw [part_len, told_len]
/-! ### each row's path ends at the whole -/
theorem tolds_end (ts : List Tr) (p : List Str) : ∀ r ∈ tolds ts p, ∃ q, r.2.2 = q ++ p := fun r h => by
  have e := tolds_under ts [] p
  rw [List.nil_append] at e
  rw [e] at h
  obtain ⟨s, _, rfl⟩ := List.mem_map.mp h
  exact ⟨_, rfl⟩
/-! ### names told for others -/
/-! ### a tree is a plan where its names are unlike -/
theorem alpha_in (c : Nat) : c ∈ ("abcdefghijklmnopqrstuvwxyz" : Str).cps.toList ↔ 97 ≤ c ∧ c ≤ 122 := by
  have e : ("abcdefghijklmnopqrstuvwxyz" : Str).cps.toList = List.range' 97 26 := by decide +kernel
  rw [e, List.mem_range'_1]
  omega
theorem ok_nameB {s : Str} (h : nameOk s) : nameB s = true := by
  unfold nameB
  simp only [Bool.and_eq_true, decide_eq_true_eq, List.all_eq_true]
  exact ⟨⟨h.1, h.2.1⟩, fun c hc => (alpha_in c).mpr (h.2.2 c hc)⟩
mutual
theorem all_tree : ∀ t : Tr, t.ok → (∀ n ∈ t.nms, nameOk n) → allM t.dat = some t.nms
  | .hand n, _, h => by
    simp only [Tr.dat, Tr.nms, allM]
    rw [if_pos (ok_nameB (h n (by simp [Tr.nms])))]
  | .grp n b ms, ho, h => by
    simp only [Tr.ok] at ho
    have ih := alls_tree ms ho.2.2.2 (fun x hx => h x (by simp [Tr.nms, hx]))
    have hne : dats ms ≠ [] := by
      cases ms with
      | nil => exact absurd rfl ho.2.2.1
      | cons m ms => simp [dats]
    simp only [Tr.dat, Tr.nms, allM]
    rw [if_pos ⟨ho.1, hne, ok_nameB (h n (by simp [Tr.nms]))⟩, ih]
theorem alls_tree : ∀ ts : List Tr, oks ts → (∀ n ∈ nmss ts, nameOk n) → allMs (dats ts) = some (nmss ts)
  | [], _, _ => by simp [dats, allMs, nmss]
  | t :: ts, ho, h => by
    simp only [oks] at ho
    have h1 := all_tree t ho.1 (fun x hx => h x (by simp [nmss, hx]))
    have h2 := alls_tree ts ho.2 (fun x hx => h x (by simp [nmss, hx]))
    simp only [dats, allMs, nmss, h1, h2]
end
theorem plan_tree {n : Str} {b : Int} {ms : List Tr} (ho : (Tr.grp n b ms).ok) (h : ∀ x ∈ (Tr.grp n b ms).nms, nameOk x) : planB (Tr.grp n b ms).dat = decide (Tr.grp n b ms).nms.Nodup := by
  have e := all_tree _ ho h
  rw [plan_unique]
  have e2 : allG (Tr.grp n b ms).dat = some (Tr.grp n b ms).nms := by
    rw [← e]
    simp only [Tr.dat]
    rfl
  rw [e2]
  rfl
end NL
namespace NL
open PySem L2 Evl
/-! ### turns, and even plans, as trees -/
mutual
def Tr.hn : Tr → Nat
  | .hand _ => 1
  | .grp _ _ ms => hns ms
def hns : List Tr → Nat
  | [] => 0
  | t :: ts => t.hn + hns ts
end
mutual
def Tr.turn : Tr → Int
  | .hand _ => 1
  | .grp _ b ms => if hns ms = 1 then 1 else b * maxs ms
def maxs : List Tr → Int
  | [] => 0
  | t :: ts => max t.turn (maxs ts)
end
theorem maxs_ge : ∀ {ts : List Tr}, ∀ t ∈ ts, t.turn ≤ maxs ts
  | u :: ts, t, h => by
    simp only [maxs]
    rcases List.mem_cons.mp h with rfl | h
    · omega
    · have := maxs_ge t h
      omega
theorem max_le {ts : List Tr} : ∀ y ∈ ts.map Tr.turn, y ≤ maxs ts := fun y hy => by
  obtain ⟨t, ht, rfl⟩ := List.mem_map.mp hy
  exact maxs_ge t ht
end NL
/-! terms that tell some tuple of known things -/
namespace NL
open PySem L2 Evl
def EvS (K : PySem.W.Frag) (te : TE) (σ : L2.St) (H : Hp) (xs : List V) : Prop := ∀ H1, Ex H H1 → ∀ Q : VK, (∀ p H2, Ex H1 H2 → SqT K H2 p xs → Q (.ref p) H2) → te σ H1 Q
section
variable {K : PySem.W.Frag} {σ : L2.St} {H H' : Hp} {te ta tb : TE} {xs ys : List V}
theorem EvS.mono (e : Ex H H') (h : EvS K te σ H xs) : EvS K te σ H' xs := fun H1 a Q q => h H1 (e.trans a) Q q
end
/-! ### tuples of names against one another -/
theorem eqv_strs : ∀ xs ys : List Str, PyData.eqvAll (xs.map PyData.str) (ys.map PyData.str) = decide (xs = ys)
  | [], [] => by simp [PyData.eqvAll]
  | [], y :: ys => by simp [PyData.eqvAll]
  | x :: xs, [] => by simp [PyData.eqvAll]
  | x :: xs, y :: ys => by
    simp only [List.map_cons, PyData.eqvAll, PyData.eqv, eqv_strs xs ys]
    rw [Bool.eq_iff_iff]
    simp
section
variable {K : PySem.W.Frag} {σ : L2.St} {H : Hp} {te ta tb : TE} {xs : List V}
theorem anyK {X : Cx} (h : X.K = K) (hc : X.calm = true) : CallR X (.builtin "any") (rAny K) := by subst h; exact cr_any hc
end
end NL
/-! plans as data that weigh so much -/
namespace NL
open PySem L2 Evl
section
variable {K : PySem.W.Frag}
mutual
theorem trv_dy {H : Hp} : ∀ (t : Tr) (v : V), TrV H v t → Dy K H v t.dat
  | .hand n, _, h => by cases h; simp only [Tr.dat]; exact .str n
  | .grp n b ms, _, h => by
    cases h with
    | grp h1 h2 h3 =>
      simp only [Tr.dat]
      exact .tup (st_of h1) (.cons (.str n) (.cons (.int b) (.cons (.tup (st_of h2) (trvs_dy ms _ h3)) .nil)))
theorem trvs_dy {H : Hp} : ∀ (ts : List Tr) (vs : List V), TrVs H vs ts → DyAll K H vs (dats ts)
  | [], _, h => by cases h; simp only [dats]; exact .nil
  | t :: ts, _, h => by
    cases h with
    | cons h1 h2 =>
      simp only [dats]
      exact .cons (trv_dy t _ h1) (trvs_dy ts _ h2)
end
end
theorem name_asc {n : Str} (h : nameOk n) : asc n := fun c hc => by
  have := h.2.2 c hc
  omega
mutual
theorem dat_wt : ∀ (t : Tr), (∀ n ∈ t.nms, nameOk n) → t.ok → wt t.dat ≤ 170 * t.size ∧ nodes t.dat ≤ 4 * t.size ∧ t.dat.depth ≤ 2 * t.deep ∧ okD (2 ^ 30) t.dat
  | .hand n, h, _ => by
    have hn := h n (by simp [Tr.nms])
    have := hn.2.1
    simp only [Tr.dat, Tr.deep, Tr.size, wt, nodes, PyData.depth, okD]
    exact ⟨by omega, by omega, by omega, name_asc hn⟩
  | .grp n b ms, h, ho => by
    have hn := h n (by simp [Tr.nms])
    have := hn.2.1
    simp only [Tr.ok] at ho
    obtain ⟨b1, b2, _, ho⟩ := ho
    obtain ⟨i1, i2, i3, i4⟩ := dats_wt ms (fun m hm => h m (by simp [Tr.nms, hm])) ho
    simp only [Tr.dat, Tr.deep, Tr.size, wt, wts, nodes, nodess, PyData.depth, PyData.depthAll, okD, okDs]
    exact ⟨by omega, by omega, by omega, name_asc hn, by omega, i4, trivial⟩
theorem dats_wt : ∀ (ts : List Tr), (∀ n ∈ nmss ts, nameOk n) → oks ts → wts (dats ts) ≤ 170 * sizes ts ∧ nodess (dats ts) ≤ 4 * sizes ts ∧ PyData.depthAll (dats ts) ≤ 2 * deeps ts ∧ okDs (2 ^ 30) (dats ts)
  | [], _, _ => by simp [dats, wts, nodess, PyData.depthAll, okDs]
  | t :: ts, h, ho => by
    simp only [oks] at ho
    obtain ⟨i1, i2, i3, i4⟩ := dat_wt t (fun m hm => h m (by simp [nmss, hm])) ho.1
    obtain ⟨j1, j2, j3, j4⟩ := dats_wt ts (fun m hm => h m (by simp [nmss, hm])) ho.2
    simp only [dats, wts, nodess, PyData.depthAll, okDs, sizes, deeps]
    exact ⟨by omega, by omega, by omega, i4, j4⟩
end
theorem tree_dx {K : PySem.W.Frag} {H : Hp} {v : V} {t : Tr} (h : TrV H v t) : Dx K H v t.dat := dx_dp _ _ (trv_dp t v h)
theorem tree_fits {t : Tr} (h : ∀ n ∈ t.nms, nameOk n) (ho : t.ok) (hs : t.size ≤ 200) (hd : t.deep ≤ 12) : shorts t.dat ∧ t.dat.depth ≤ 30 ∧ nodes t.dat ≤ 4000 := by
  obtain ⟨h1, h2, h3, h4⟩ := dat_wt t h ho
  exact ⟨shorts_wt (W := 10000000) (by decide) _ (by omega), by omega, by omega⟩
end NL
/-! enumerate of a tuple -/
namespace NL
open PySem PySem.Spec PyProof.Rows L2 Evl
end NL
/-! terms that make some datum and change nothing that is there; some addresses set aside -/
namespace NL
open PySem PySem.Spec PyProof.Rows L2 Evl
def Sin (S : List Addr) (H : Hp) : Prop := ∀ a ∈ S, H a ≠ none
theorem Sin.ex {S : List Addr} {H H' : Hp} (s : Sin S H) (e : Ex H H') : Sin S H' := fun a ha z => by
  cases h : H a with
  | none => exact s a ha h
  | some o =>
    rw [e a o h] at z
    cases z
theorem Sin.off {S : List Addr} {H : Hp} {p : Addr} (s : Sin S H) (hp : H p = none) : p ∉ S := fun h => s p h hp
theorem Sin.cons {S : List Addr} {H H' : Hp} {p : Addr} {o : HO} (s : Sin S H) (e : Ex H H') (hp : H' p = some o) : Sin (p :: S) H' := fun a ha => by
  rcases List.mem_cons.mp ha with rfl | ha
  · rw [hp]
    exact fun z => by cases z
  · exact s.ex e a ha
section
variable {K : PySem.W.Frag} {S : List Addr} {σ : L2.St} {H H' : Hp} {te tb : TE} {ta : TA} {W N D B W' N' D' B' n m : Nat}
def PV (K : PySem.W.Frag) (S : List Addr) (W N D B : Nat) (te : TE) (σ : L2.St) (H : Hp) : Prop := ∀ H1, Ex H H1 → ∀ Q : VK, (∀ v H2, Ex H1 H2 → G K (aside H2 S) v W N D B → Q v H2) → te σ H1 Q
def PTp (K : PySem.W.Frag) (S : List Addr) (W N D B : Nat) (te : TE) (σ : L2.St) (H : Hp) : Prop := ∀ H1, Ex H H1 → ∀ Q : VK, (∀ p xs H2, Ex H1 H2 → SqT K (aside H2 S) p xs → GL K (aside H2 S) xs W N D B → Q (.ref p) H2) → te σ H1 Q
/-- a list of at most n of them -/
def PLs (K : PySem.W.Frag) (S : List Addr) (n W N D B : Nat) (te : TE) (σ : L2.St) (H : Hp) : Prop := ∀ H1, Ex H H1 → ∀ Q : VK, (∀ p xs H2, Ex H1 H2 → H2 p = some (.lst xs) → p ∉ S → xs.length ≤ n → (∀ v ∈ xs, G K (aside H2 (p :: S)) v W N D B) → Q (.ref p) H2) → te σ H1 Q
theorem PV.mono (g : PV K S W N D B te σ H) (e : Ex H H') : PV K S W N D B te σ H' := fun H1 e1 Q q => g H1 (e.trans e1) Q q
theorem PV.up (g : PV K S W N D B te σ H) (hW : W ≤ W') (hN : N ≤ N') (hD : D ≤ D') (hB : B ≤ B') : PV K S W' N' D' B' te σ H := fun H1 e Q q => g H1 e Q fun v H2 e2 g2 => q v H2 e2 (g2.up hW hN hD hB)
theorem PTp.up (g : PTp K S W N D B te σ H) (hW : W ≤ W') (hN : N ≤ N') (hD : D ≤ D') (hB : B ≤ B') : PTp K S W' N' D' B' te σ H := fun H1 e Q q => g H1 e Q fun p xs H2 e2 s g2 => q p xs H2 e2 s (g2.up hW hN hD hB)
theorem PLs.up (g : PLs K S n W N D B te σ H) (hn : n ≤ m) (hW : W ≤ W') (hN : N ≤ N') (hD : D ≤ D') (hB : B ≤ B') : PLs K S m W' N' D' B' te σ H := fun H1 e Q q => g H1 e Q fun p xs H2 e2 h off l g2 => q p xs H2 e2 h off (by omega) fun v hv => (g2 v hv).up hW hN hD hB
end
end NL
/-! the box that draws: a list of three numbers; a box of names: a dict of three -/
namespace NL
open PySem L2 Evl
structure BxAt (H : Hp) (h : Addr) (n m c : Int) (C : Nat) : Prop where
  hh : H h = some (.lst [.int n, .int m, .int c])
  n0 : 0 ≤ n
  m0 : 0 ≤ m
  m1 : m < 2 ^ 100
  c0 : 0 ≤ c
  c1 : c ≤ C
def Bx (H : Hp) (h : Addr) (C : Nat) : Prop := ∃ n m c, BxAt H h n m c C
theorem BxAt.ex {H H' : Hp} {h : Addr} {n m c : Int} {C : Nat} (A : BxAt H h n m c C) (e : Ex H H') : BxAt H' h n m c C := ⟨e _ _ A.hh, A.n0, A.m0, A.m1, A.c0, A.c1⟩
theorem Bx.ex {H H' : Hp} {h : Addr} {C : Nat} (A : Bx H h C) (e : Ex H H') : Bx H' h C := by
  obtain ⟨n, m, c, A⟩ := A
  exact ⟨n, m, c, A.ex e⟩
theorem Bx.up {H : Hp} {h : Addr} {C C' : Nat} (A : Bx H h C) (hC : C ≤ C') : Bx H h C' := by
  obtain ⟨n, m, c, A⟩ := A
  exact ⟨n, m, c, A.hh, A.n0, A.m0, A.m1, A.c0, by have := A.c1; omega⟩
theorem Bx.fresh {H : Hp} {h p : Addr} {C : Nat} (A : Bx H h C) (n : H p = none) : p ≠ h := by
  obtain ⟨_, _, _, A⟩ := A
  intro e
  subst e
  rw [A.hh] at n
  cases n
theorem Bx.new {H : Hp} {h p : Addr} {o : HO} {C : Nat} (A : Bx H h C) (n : H p = none) : Bx (upd H p o) h C := A.ex (Ex.new n)
theorem ev_abs {σ : L2.St} {H : Hp} {te : TE} {i : Int} (h : Ev te σ H (.int i)) : Ev (tCB (fun xs H Q => ∃ i, xs = [.int i] ∧ Q (.int (if i < 0 then -i else i)) H) (tCons te tNil)) σ H (.int (if i < 0 then -i else i)) := ev_cb (ea_cons h ea_nil) fun H1 e Q q => ⟨i, rfl, q H1 (Ex.refl H1)⟩
theorem ev_intB {σ : L2.St} {H : Hp} {te : TE} {b : Bool} (h : Ev te σ H (.bl b)) : Ev (tCB (fun xs H Q => (∃ i, xs = [.int i] ∧ Q (.int i) H) ∨ ∃ k, xs = [.bl k] ∧ Q (.int (if k then 1 else 0)) H) (tCons te tNil)) σ H (.int (if b then 1 else 0)) := ev_cb (ea_cons h ea_nil) fun H1 e Q q => Or.inr ⟨b, rfl, q H1 (Ex.refl H1)⟩
theorem ex_kp {H H1 H' : Hp} {h : Addr} (e : Ex H H1) (n : H h = none) (k : Kp h h H1 H') : Ex H H' := fun a o ha => by
  have : a ≠ h := fun z => by
    subst z
    rw [n] at ha
    cases ha
  exact k a o this this (e _ _ ha)
/-! ### names by a dict: which is next, the first, how far from one to the next -/
def NB (H : Hp) (bx : Addr) (k : Nat) (f b : Int) : Prop := H bx = some (.dK [(Sum.inr (Str.ofString "next"), .int (k : Int)), (Sum.inr (Str.ofString "first"), .int f), (Sum.inr (Str.ofString "by"), .int b)])
def nmL (f b : Int) (j : Nat) : Str := ⟨#[97 + ((f + b * (j : Int)) % 26).toNat]⟩
theorem nmL_ok (f b : Int) (j : Nat) : nameOk (nmL f b j) := by
  refine ⟨?_, ?_, fun c hc => ?_⟩
  · show 1 ≤ 1
    decide
  · show 1 ≤ 8
    decide
  · have : c = 97 + ((f + b * (j : Int)) % 26).toNat := by simpa [nmL] using hc
    omega
theorem NB.ex {H H' : Hp} {bx : Addr} {k : Nat} {f b : Int} (n : NB H bx k f b) (e : Ex H H') : NB H' bx k f b := e _ _ n
theorem NB.kp {H H' : Hp} {bx h : Addr} {k : Nat} {f b : Int} (n : NB H bx k f b) (ne : bx ≠ h) (e : Kp h h H H') : NB H' bx k f b := e _ _ ne ne n
theorem Bx.kp {H H' : Hp} {bx h : Addr} {C : Nat} (A : Bx H h C) (ne : h ≠ bx) (e : Kp bx bx H H') : Bx H' h C := by
  obtain ⟨n, m, c, A⟩ := A
  exact ⟨n, m, c, e _ _ ne ne A.hh, A.n0, A.m0, A.m1, A.c0, A.c1⟩
theorem Bx.ne {H : Hp} {h bx : Addr} {C k : Nat} {f b : Int} (A : Bx H h C) (n : NB H bx k f b) : h ≠ bx := fun z => by
  obtain ⟨_, _, _, A⟩ := A
  subst z
  have := A.hh.symm.trans n
  cases this
theorem tk_bx {H H' : Hp} {h : Addr} {C : Nat} (A : Bx H h C) (e : Kp h h H H') : TK H H' := fun a xs ha => by
  obtain ⟨_, _, _, A⟩ := A
  have : a ≠ h := fun z => by
    subst z
    rw [A.hh] at ha
    cases ha
  exact e a _ this this ha
theorem NB.fresh {H : Hp} {bx p : Addr} {k : Nat} {f b : Int} (n : NB H bx k f b) (hp : H p = none) : p ≠ bx := fun z => by
  subst z
  have := n.symm.trans hp
  cases this
/-! ### names of groups -/
mutual
def Tr.gn : Tr → List Str
  | .hand _ => []
  | .grp n _ ms => n :: gns ms
def gns : List Tr → List Str
  | [] => []
  | t :: ts => t.gn ++ gns ts
end
theorem mem_gns : ∀ {ts : List Tr} {x : Str}, x ∈ gns ts → ∃ t ∈ ts, x ∈ t.gn
  | t :: ts, x, h => by
    simp only [gns] at h
    rcases List.mem_append.mp h with h | h
    · exact ⟨t, List.mem_cons_self .., h⟩
    · obtain ⟨u, hu, hx⟩ := mem_gns h
      exact ⟨u, List.mem_cons_of_mem _ hu, hx⟩
theorem mem_nmss : ∀ {ts : List Tr} {x : Str}, x ∈ nmss ts → ∃ t ∈ ts, x ∈ t.nms
  | t :: ts, x, h => by
    simp only [nmss] at h
    rcases List.mem_append.mp h with h | h
    · exact ⟨t, List.mem_cons_self .., h⟩
    · obtain ⟨u, hu, hx⟩ := mem_nmss h
      exact ⟨u, List.mem_cons_of_mem _ hu, hx⟩
theorem oks_of : ∀ {ts : List Tr}, (∀ t ∈ ts, t.ok) → oks ts
  | [], _ => trivial
  | t :: ts, h => ⟨h t (List.mem_cons_self ..), oks_of fun u hu => h u (List.mem_cons_of_mem _ hu)⟩
theorem deeps_of {d : Nat} : ∀ {ts : List Tr}, (∀ t ∈ ts, t.deep ≤ d) → deeps ts ≤ d
  | [], _ => Nat.zero_le _
  | t :: ts, h => by
    simp only [deeps]
    exact Nat.max_le.mpr ⟨h t (List.mem_cons_self ..), deeps_of fun u hu => h u (List.mem_cons_of_mem _ hu)⟩
/-- a tree whose groups have names between these -/
structure GM (f b : Int) (lo hi d : Nat) (t : Tr) : Prop where
  ok : t.ok
  dp : t.deep ≤ d
  nm : ∀ x ∈ t.nms, nameOk x
  gn : ∀ x ∈ t.gn, ∃ j, lo < j ∧ j ≤ hi ∧ x = nmL f b j
theorem GM.up {f b : Int} {lo hi lo' hi' d d' : Nat} {t : Tr} (g : GM f b lo hi d t) (h1 : lo' ≤ lo) (h2 : hi ≤ hi') (h3 : d ≤ d') : GM f b lo' hi' d' t := ⟨g.ok, Nat.le_trans g.dp h3, g.nm, fun x hx => by
  obtain ⟨j, a, c, e⟩ := g.gn x hx
  exact ⟨j, by omega, by omega, e⟩⟩
theorem GM.hand {f b : Int} {lo hi d : Nat} {x : Str} (h : nameOk x) : GM f b lo hi d (.hand x) := ⟨trivial, Nat.zero_le _, fun y hy => by
  simp only [Tr.nms] at hy
  rw [List.mem_singleton.mp hy]
  exact h, fun y hy => by cases hy⟩
def GMs (f b : Int) (lo hi d : Nat) (ts : List Tr) : Prop := (∀ t ∈ ts, GM f b lo hi d t) ∧ sizes ts + lo ≤ hi
theorem GMs.grp {f b : Int} {lo lo' hi d j : Nat} {ms : List Tr} {c : Int} (g : GMs f b lo hi d ms) (hn : ms ≠ []) (c1 : 1 ≤ c) (c2 : c ≤ 999999999) (j1 : lo' < j) (j2 : j ≤ hi) (hl : lo' ≤ lo) : GM f b lo' hi (d + 1) (.grp (nmL f b j) c ms) where
  ok := ⟨c1, c2, hn, oks_of fun t ht => (g.1 t ht).ok⟩
  dp := by
    simp only [Tr.deep]
    have := deeps_of fun t ht => (g.1 t ht).dp
    omega
  nm := fun x hx => by
    simp only [Tr.nms] at hx
    rcases List.mem_cons.mp hx with rfl | hx
    · exact nmL_ok f b j
    · obtain ⟨t, ht, hx⟩ := mem_nmss hx
      exact (g.1 t ht).nm x hx
  gn := fun x hx => by
    simp only [Tr.gn] at hx
    rcases List.mem_cons.mp hx with rfl | hx
    · exact ⟨j, j1, j2, rfl⟩
    · obtain ⟨t, ht, hx⟩ := mem_gns hx
      obtain ⟨i, a1, a2, a3⟩ := (g.1 t ht).gn x hx
      exact ⟨i, by omega, a2, a3⟩
theorem GMs.ins {f b : Int} {lo mid hi d : Nat} {a c : List Tr} {t : Tr} (g : GMs f b lo mid d (a ++ c)) (gt : GM f b mid hi d t) (hs : t.size + mid ≤ hi) (hm : lo ≤ mid) : GMs f b lo hi d (a ++ [t] ++ c) := by
  have hs2 := g.2
  rw [sizes_app] at hs2
  refine ⟨fun u hu => ?_, ?_⟩
  · have h : u ∈ a ∨ u = t ∨ u ∈ c := by
      rcases List.mem_append.mp hu with hu | hu
      · rcases List.mem_append.mp hu with hu | hu
        · exact .inl hu
        · exact .inr (.inl (List.mem_singleton.mp hu))
      · exact .inr (.inr hu)
    rcases h with h | rfl | h
    · exact (g.1 u (List.mem_append_left _ h)).up (Nat.le_refl _) (by omega) (Nat.le_refl _)
    · exact gt.up hm (Nat.le_refl _) (Nat.le_refl _)
    · exact (g.1 u (List.mem_append_right _ h)).up (Nat.le_refl _) (by omega) (Nat.le_refl _)
  · rw [sizes_app, sizes_app]
    simp only [sizes]
    omega
theorem GMs.up {f b : Int} {lo hi hi' d d' : Nat} {ts : List Tr} (g : GMs f b lo hi d ts) (h2 : hi ≤ hi') (h3 : d ≤ d') : GMs f b lo hi' d' ts := ⟨fun t ht => (g.1 t ht).up (Nat.le_refl _) h2 h3, Nat.le_trans g.2 h2⟩
theorem GMs.app {f b : Int} {lo mid hi d : Nat} {a : List Tr} {t : Tr} (g : GMs f b lo mid d a) (gt : GM f b mid hi d t) (hs : t.size + mid ≤ hi) (hm : lo ≤ mid) : GMs f b lo hi d (a ++ [t]) := by
  have := GMs.ins (a := a) (c := []) (by rw [List.append_nil]; exact g) gt hs hm
  rw [List.append_nil] at this
  exact this
end NL
/-! data of tuples alone: they stay whatever becomes of lists -/
namespace NL
open PySem L2 Evl
mutual
def tupOnly : PyData → Bool
  | .none => true
  | .bool _ => true
  | .int _ => true
  | .str _ => true
  | .tuple ds => tupOnlys ds
  | _ => false
def tupOnlys : List PyData → Bool
  | [] => true
  | d :: ds => tupOnly d && tupOnlys ds
end
def ST (K : PySem.W.Frag) (H H' : Hp) : Prop := ∀ a xs, SqT K H a xs → SqT K H' a xs
theorem ST.refl {K : PySem.W.Frag} (H : Hp) : ST K H H := fun _ _ h => h
theorem ST.trans {K : PySem.W.Frag} {H H1 H2 : Hp} (a : ST K H H1) (b : ST K H1 H2) : ST K H H2 := fun x y h => b x y (a x y h)
theorem ST.ex {K : PySem.W.Frag} {H H' : Hp} (e : Ex H H') : ST K H H' := fun _ _ h => ex_t e h
theorem ST.lst {K : PySem.W.Frag} {H : Hp} {p : Addr} {ys : List V} {o : HO} (h : H p = some (.lst ys)) : ST K H (upd H p o) := fun a xs s => by
  rcases s with (z | ⟨ob, z⟩) | z
  · refine Or.inl (Or.inl ?_)
    rw [upd_ne (fun y => by subst y; rw [h] at z; cases z)]
    exact z
  · refine Or.inl (Or.inr ⟨ob, ?_⟩)
    rw [upd_ne (fun y => by subst y; rw [h] at z; cases z)]
    exact z
  · exact Or.inr z
theorem ST.bx {K : PySem.W.Frag} {H H' : Hp} {h : Addr} {C : Nat} (A : Bx H h C) (k : Kp h h H H') : ST K H H' := fun a xs s => by
  obtain ⟨_, _, _, B⟩ := A
  rcases s with (z | ⟨ob, z⟩) | z
  · have : a ≠ h := fun y => by subst y; rw [B.hh] at z; cases z
    exact Or.inl (Or.inl (k _ _ this this z))
  · have : a ≠ h := fun y => by subst y; rw [B.hh] at z; cases z
    exact Or.inl (Or.inr ⟨ob, k _ _ this this z⟩)
  · exact Or.inr z
mutual
theorem dy_st {K : PySem.W.Frag} {H H' : Hp} (s : ST K H H') : ∀ (d : PyData) (v : V), tupOnly d = true → Dy K H v d → Dy K H' v d
  | .none, _, _, h => by cases h; exact .non
  | .bool b, _, _, h => by cases h; exact .bl b
  | .int i, _, _, h => by cases h; exact .int i
  | .str x, _, _, h => by cases h; exact .str x
  | .tuple ds, _, t, h => by
    cases h with
    | tup hs ha =>
      simp only [tupOnly] at t
      exact .tup (s _ _ hs) (dya_st s ds _ t ha)
  | .list ds, _, t, _ => by simp [tupOnly] at t
  | .dict ds, _, t, _ => by simp [tupOnly] at t
theorem dya_st {K : PySem.W.Frag} {H H' : Hp} (s : ST K H H') : ∀ (ds : List PyData) (vs : List V), tupOnlys ds = true → DyAll K H vs ds → DyAll K H' vs ds
  | [], _, _, h => by cases h; exact .nil
  | d :: ds, _, t, h => by
    cases h with
    | cons a b =>
      simp only [tupOnlys, Bool.and_eq_true] at t
      exact .cons (dy_st s d _ t.1 a) (dya_st s ds _ t.2 b)
end
/-- a datum of tuples alone, small -/
structure TD (K : PySem.W.Frag) (H : Hp) (W N D : Nat) (v : V) (d : PyData) : Prop where
  dy : Dy K H v d
  to : tupOnly d = true
  wt : wt d ≤ W
  nd : nodes d ≤ N
  dp : d.depth ≤ D
  ok : okD 1000000000 d
theorem TD.st {K : PySem.W.Frag} {H H' : Hp} {W N D : Nat} {v : V} {d : PyData} (t : TD K H W N D v d) (s : ST K H H') : TD K H' W N D v d := ⟨dy_st s d v t.to t.dy, t.to, t.wt, t.nd, t.dp, t.ok⟩
theorem TD.up {K : PySem.W.Frag} {H : Hp} {W N D W' N' D' : Nat} {v : V} {d : PyData} (t : TD K H W N D v d) (h1 : W ≤ W') (h2 : N ≤ N') (h3 : D ≤ D') : TD K H W' N' D' v d := ⟨t.dy, t.to, Nat.le_trans t.wt h1, Nat.le_trans t.nd h2, Nat.le_trans t.dp h3, t.ok⟩
inductive TDs (K : PySem.W.Frag) (H : Hp) (W N D : Nat) : List V → List PyData → Prop
  | nil : TDs K H W N D [] []
  | cons {v : V} {vs : List V} {d : PyData} {ds : List PyData} : TD K H W N D v d → TDs K H W N D vs ds → TDs K H W N D (v :: vs) (d :: ds)
theorem TDs.st {K : PySem.W.Frag} {H H' : Hp} {W N D : Nat} (s : ST K H H') : ∀ {vs : List V} {ds : List PyData}, TDs K H W N D vs ds → TDs K H' W N D vs ds
  | _, _, .nil => .nil
  | _, _, .cons a b => .cons (a.st s) (b.st s)
theorem TDs.one {K : PySem.W.Frag} {H : Hp} {W N D : Nat} {v : V} {d : PyData} (t : TD K H W N D v d) : ∀ {vs : List V} {ds : List PyData}, TDs K H W N D vs ds → TDs K H W N D (vs ++ [v]) (ds ++ [d])
  | _, _, .nil => .cons t .nil
  | _, _, .cons a b => .cons a (b.one t)
theorem TDs.len {K : PySem.W.Frag} {H : Hp} {W N D : Nat} : ∀ {vs : List V} {ds : List PyData}, TDs K H W N D vs ds → vs.length = ds.length
  | _, _, .nil => rfl
  | _, _, .cons _ b => by rw [List.length_cons, List.length_cons, b.len]
theorem TDs.all {K : PySem.W.Frag} {H : Hp} {W N D : Nat} : ∀ {vs : List V} {ds : List PyData}, TDs K H W N D vs ds → DyAll K H vs ds ∧ tupOnlys ds = true ∧ wts ds ≤ ds.length * W ∧ nodess ds ≤ ds.length * N ∧ PyData.depthAll ds ≤ D ∧ okDs 1000000000 ds
  | _, _, .nil => ⟨.nil, rfl, by simp [wts], by simp [nodess], by simp [PyData.depthAll], by simp [okDs]⟩
  | _, _, .cons (ds := ds) a b => by
    obtain ⟨b1, b2, b3, b4, b5, b6⟩ := b.all
    refine ⟨.cons a.dy b1, by simp only [tupOnlys, a.to, b2]; rfl, ?_, ?_, ?_, ?_⟩
    · have := a.wt
      simp only [wts, List.length_cons, Nat.succ_mul]
      omega
    · have := a.nd
      simp only [nodess, List.length_cons, Nat.succ_mul]
      omega
    · have := a.dp
      simp only [PyData.depthAll]
      omega
    · simp only [okDs]
      exact ⟨a.ok, b6⟩
/-- a tuple of such ones -/
theorem TDs.tup {K : PySem.W.Frag} {H : Hp} {W N D n : Nat} {a : Addr} {vs : List V} {ds : List PyData} (t : TDs K H W N D vs ds) (hs : SqT K H a vs) (hn : ds.length ≤ n) : TD K H (n * W + 10) (n * N + 1) (D + 1) (.ref a) (.tuple ds) := by
  obtain ⟨b1, b2, b3, b4, b5, b6⟩ := t.all
  have h1 := Nat.mul_le_mul_right W hn
  have h2 := Nat.mul_le_mul_right N hn
  refine ⟨.tup hs b1, by simp only [tupOnly]; exact b2, ?_, ?_, ?_, ?_⟩
  · simp only [NL.wt]
    omega
  · simp only [nodes]
    omega
  · simp only [PyData.depth]
    omega
  · simp only [okD]
    exact b6
theorem td_non {K : PySem.W.Frag} {H : Hp} {D : Nat} : TD K H 100 1 D .non .none := ⟨.non, rfl, by simp [wt], by simp [nodes], by simp [PyData.depth], by simp [okD]⟩
theorem td_int {K : PySem.W.Frag} {H : Hp} {D : Nat} {i : Int} (h : i.natAbs ≤ 1000000000) : TD K H 100 1 D (.int i) (.int i) := ⟨.int i, rfl, by simp [wt], by simp [nodes], by simp [PyData.depth], by simp only [okD]; exact h⟩
theorem td_str {K : PySem.W.Frag} {H : Hp} {D : Nat} {z : Str} (h : asc z) (hl : z.length ≤ 9) : TD K H 100 1 D (.str z) (.str z) := ⟨.str z, rfl, by simp only [wt]; omega, by simp [nodes], by simp [PyData.depth], by simp only [okD]; exact h⟩
theorem td_lit {K : PySem.W.Frag} {H : Hp} {D : Nat} {s : String} (ha : (s.toList.all fun c => decide (c.toNat < 128)) = true) (hl : s.length ≤ 9) : TD K H 100 1 D (.str (Str.ofString s)) (.str (Str.ofString s)) := td_str (asc_lit ha) (by rw [PySem.ofString_length]; exact hl)
end NL
/-! a list set aside while a def is called: it stays, and nothing new leads to it -/
namespace NL
open PySem PySem.Spec PyProof.Rows L2 Evl
theorem ObjOk.over {P : Program} {w : World} {H H' : Hp} {h : Heap} (k : ∀ x u, H x = some u → (∀ zs, u ≠ .lst zs) → H' x = some u) : ∀ {o : HO} {a : Addr}, ObjOk P w H h a o → ObjOk P w H' h a o
  | .lst _, _, x => x
  | .tup _, _, x => x
  | .dK _, _, x => x
  | .dT kvs, a, x => by
    obtain ⟨h1, h2, xs, h3, h4⟩ := x
    exact ⟨h1, h2, xs, Paired.mapP h3 (fun p q r => ⟨r.1, k _ _ r.2.1 (fun zs z => by cases z), r.2.2⟩), h4⟩
  | .set _ _, _, x => x
  | .ins C dx fs, a, x => ⟨k _ _ x.1 (fun zs z => by cases z), x.2⟩
  | .own _, _, x => x
  | .xd _, _, x => x
  | .rng _ _, _, x => x
  | .frz o u, a, x => ⟨x.1, ObjOk.over k (o := u) x.2⟩
  | .tbl _, _, x => x
  | .met _ _, _, x => x
  | .ext _, _, x => x
def framed (sp : Sp) : Sp := fun vs H Q E => ∃ (q : Addr) (zs : List V), H q = some (.lst zs) ∧ sp vs (aside H [q]) (fun v H' => H' q = none → Q v (upd H' q (.lst zs))) E
section
variable {P : Program} {w : World} {K : PySem.W.Frag} {mg : Str → Option Value} {base : Heap} {k : Nat} {f : Addr} {fd : FuncData} {ps : List Str} {sp : Sp}
theorem aside_none {H : Hp} {S : List Addr} {b : Addr} (h : H b = none) : aside H S b = none := by
  by_cases hb : b ∈ S
  · exact aside_in hb
  · rw [aside_at hb]
    exact h
theorem env_less {A : Around} {outer : List Env} {s : Shared} {H : Hp} {q : Addr} {zs : List V} (e : Env0 P w K mg base A outer s H) (hq : H q = some (.lst zs)) : Env0 P w K mg base A outer s (aside H [q]) := by
  refine ⟨e.frames, e.mod, fun b o hb => ⟨(e.bs b o hb).1, aside_none (e.bs b o hb).2⟩, e.bsz, e.funs, fun b hb => aside_none (e.frf b hb), fun a o ha => ?_, e.bare⟩
  have hne : a ∉ [q] := fun z => by
    rw [aside_in z] at ha
    cases ha
  rw [aside_at hne] at ha
  refine ObjOk.over (fun x u hx nl => ?_) (e.hok a o ha)
  have hxq : x ∉ [q] := fun z => by
    rw [List.mem_singleton.mp z, hq] at hx
    cases hx
    exact nl _ rfl
  rw [aside_at hxq]
  exact hx
theorem end_more {outer : List Env} {H : Hp} {s s' : Shared} {q : Addr} {zs : List V} {Q : VK} {u : Value} (hok : HOk P w H s.heap) (frf : ∀ b ∈ frs outer, H b = none) (hq : H q = some (.lst zs)) (c : CE outer P w (aside H [q]) s (fun v H' => H' q = none → Q v (upd H' q (.lst zs))) u s') : CE outer P w H s Q u s' := by
  obtain ⟨v, H', os, bare, un, hok', ru, fin⟩ := c
  have okq := hok q _ hq
  obtain ⟨len, its, n, rv, at_q⟩ := okq
  have nq : aside H [q] q = none := aside_in (List.mem_singleton.mpr rfl)
  have free : H' q = none := un.free q _ at_q nq (by simp)
  have offq : q ∉ frs outer := fun z => by
    rw [frf q z] at hq
    cases hq
  have ne : ∀ {b : Addr} {o : HO}, H b = none ∨ (H b = some o ∧ ∀ zs, o ≠ .lst zs) → b ≠ q := fun h z => by
    subst z
    rcases h with h | ⟨h, nl⟩
    · rw [hq] at h
      cases h
    · rw [hq] at h
      cases h
      exact nl _ rfl
  have at_ne : ∀ {b : Addr}, b ≠ q → aside H [q] b = H b := fun h => aside_at (by simpa using h)
  refine ⟨v, upd H' q (.lst zs), os, bare, ⟨fun b o hb hn hf hx => un.keep b o hb (aside_none hn) hf hx, fun b o hb hn hf hx => un.slot b o hb (aside_none hn) hf hx, fun b o hb hn hx => ?_, un.there, fun b xs hb => ?_, fun b o y hb => ?_, fun b p hb => ?_⟩, fun a o ha => ?_, ru, fin free⟩
  · rw [upd_ne (ne (o := .lst []) (Or.inl hn))]
    exact un.free b o hb (aside_none hn) hx
  · have hne := ne (Or.inr ⟨hb, fun zs z => by cases z⟩)
    rw [upd_ne hne]
    exact un.tups b xs (by rw [at_ne hne]; exact hb)
  · have hne := ne (Or.inr ⟨hb, fun zs z => by cases z⟩)
    rw [upd_ne hne]
    exact un.frzs b o y (by rw [at_ne hne]; exact hb)
  · have hne := ne (Or.inr ⟨hb, fun zs z => by cases z⟩)
    rw [upd_ne hne]
    exact un.tbls b p (by rw [at_ne hne]; exact hb)
  · by_cases hne : a = q
    · subst hne
      rw [upd_same] at ha
      cases ha
      exact ⟨len, its, n, rv, un.keep a _ at_q nq offq (by simp)⟩
    · rw [upd_ne hne] at ha
      exact ObjOk.over (fun x u hx _ => (Ex.new free) x u hx) (hok' a o ha)
theorem FnG.frame (F : FnG P w K mg base k f fd ps sp) : FnG P w K mg base k f fd ps (framed sp) := by
  refine ⟨fun xs H Q E h => ?_, fun A envs s H ar vals xs Q E quiet room env binds rel told => ?_⟩
  · obtain ⟨q, zs, _, h⟩ := h
    exact F.arity _ _ _ _ h
  obtain ⟨q, zs, hq, told⟩ := told
  refine codeAny_mono (F.go A envs s (aside H [q]) ar vals xs _ E quiet room (env_less env hq) binds rel told) fun r s' out => ?_
  match r, out with
  | .error _, out => exact out.elim
  | .ok .next, out => exact out.elim
  | .ok .brk, out => exact out.elim
  | .ok .cont, out => exact out.elim
  | .ok (.ret u), out => exact end_more env.hok env.frf hq out
theorem FnOk.frame (F : FnOk P w K mg base CX0 k f fd ps sp) : FnOk P w K mg base CX0 k f fd ps (framed sp) := by
  refine ⟨fun xs H Q E h => ?_, fun A envs s H ar vals xs Q E room env binds rel told => ?_⟩
  · obtain ⟨q, zs, _, h⟩ := h
    exact F.len _ _ _ _ h
  obtain ⟨q, zs, hq, told⟩ := told
  refine codeAny_mono (F.run A envs s (aside H [q]) ar vals xs _ E room (env_less env hq) binds rel told) fun r s' out => ?_
  match r, out with
  | .error _, out => exact out.elim
  | .ok .next, out => exact out.elim
  | .ok .brk, out => exact out.elim
  | .ok .cont, out => exact out.elim
  | .ok (.ret u), out => exact end_more env.hok env.frf hq out
end
/-! ### what stays of the hand, and of data, across such a call -/
end NL
/-! sorted of a tuple of texts -/
namespace NL
open PySem PySem.Spec PyProof.Rows L2 Evl
section
variable {P : Program} {w : World} {A : Around} {E : Value → Shared → Prop} {s : Shared}
abbrev noneList : Obj := seqObj "list" #[] 0
abbrev heldAll (h : Heap) (us : List Value) : Heap := (h.push noneList).update h.objs.size (Obj.mapSeq (· ++ us.toArray))
theorem gather_tuple {l : Addr} {us : List Value} {Q : List Value → Shared → Prop} (isT : s.heap.IsTuple l us.toArray) (told : Q us { s with heap := heldAll s.heap us }) (few : us.length ≤ sizeLine) :
    wpAny (model P w) A (collect (.ref l)) Q E s := by
  obtain ⟨ob, at_l, oc, m, od⟩ := isT
  unfold collect
  refine wpAny_bind (wpAny_runValue (codeAny_builtin entry_proto_collect' ?_))
  change wpAny _ _ (do again (.builtin "list.__iadd__" ⟨[← newList [], .ref l], []⟩)) _ _ s
  refine wpAny_bind (wpAny_newList (wpAny_pure ⟨Code.quiet_builtin _ (by decide +kernel), codeAny_builtin entry_list_iadd' ?_⟩))
  change wpAny _ _ (Builtin.List.listExtendWith (.ref s.heap.objs.size) (.ref l) (.ref s.heap.objs.size)) _ _ { s with heap := s.heap.push noneList }
  unfold Builtin.List.listExtendWith
  have at2 : (s.heap.push noneList).get? l = some ob := Heap.get?_push_of_some _ at_l
  refine wpAny_bind (wpAny_typeOf (T := "tuple") ⟨ob, at2, oc⟩ ?_)
  have ty : (Value.type "tuple" == Value.type "tuple") = true := by rfl
  rw [if_pos (by rw [ty]; simp)]
  refine wpAny_bind (listItems_at at2 od (wpAny_bind (listItems_at (xs := #[]) (n := 0) (Heap.get?_push_size _ rfl) rfl ?_)))
  rw [if_neg (by simp)]
  refine wpAny_bind (listUpdate_at (xs := #[]) (n := 0) (Heap.get?_push_size _ rfl) rfl ?_ (Nat.zero_le _) (by change (#[] ++ us.toArray).size ≤ sizeLine + 1; simp only [Array.size_append, List.size_toArray, List.length_nil]; omega))
  refine wpAny_pure ?_
  change wpAny (model P w) A (load s.heap.objs.size >>= _) Q E { s with heap := heldAll s.heap us }
  refine wpAny_bind (wpAny_load (get?_update_seq (Heap.get?_push_size _ rfl) _) ?_)
  change wpAny _ _ (pure ((#[] : Array Value) ++ us.toArray).toList) Q E _
  have same : ((#[] : Array Value) ++ us.toArray).toList = us := by simp
  rw [same]
  exact wpAny_pure told
theorem sorted_tuple {l : Addr} {us : List Value} {xs : List Str} {Q : Value → Shared → Prop} (isT : s.heap.IsTuple l us.toArray) (texts : StrsAre us xs) (few : us.length < 64)
    (told : ∀ (out : Array Value) (ys : List Str), StrsAre out.toList ys → ys.Perm xs → sortedS ys = true → Q (.ref (s.heap.objs.size + 1)) { s with heap := sortedAll s.heap us out }) :
    wpAny (model P w) A (call (.builtin "sorted") [.ref l]) Q E s := by
  have fits : us.length ≤ sizeLine := small64 few
  refine Calls.call_function_entry kind_sorted plain_sorted entry_sorted (args_sorted1 _) ?_
  unfold Builtin.«sorted»
  refine wpAny_bind (m := checkCount "sorted" 1 1 _) (wpAny_pure (wpAny_bind (gather_tuple isT (wpAny_bind (wpAny_newList ?_ fits)) fits)))
  have sz : (heldAll s.heap us).objs.size = s.heap.objs.size + 1 := by
    rw [Heap.size_update, size_push']
  have at3 : ((heldAll s.heap us).push (seqObj "list" us.toArray 0)).get? (s.heap.objs.size + 1) = some (seqObj "list" us.toArray 0) := by
    rw [← sz]
    exact Heap.get?_push_size _ rfl
  change wpAny _ _ _ _ _ { s with heap := (heldAll s.heap us).push (seqObj "list" us.toArray 0) }
  rw [sz]
  refine wpAny_bind (wpAny_holding (wpAny_call_entry slot_list_sort ⟨_, at3, rfl⟩ entry_list_sort (list_sort_treeK strKind_oneLt at3 texts.keysOf (fun a b r e => keyKind_strs (by rw [← e]; exact texts)) few fun st pm so => ⟨_, rfl, ?_⟩) (args_list_sort _)))
  obtain ⟨ys, h1, h2, h3⟩ := sorted_out_str texts pm so
  exact wpAny_pure ⟨_, rfl, told _ ys h1 h2 h3⟩
end
section
variable {X : Cx}
def rSortT (K : PySem.W.Frag) : List V → Hp → VK → Prop := fun vs H Q => ∃ (a : Addr) (xs : List Str), vs = [V.ref a] ∧ SqT K H a (xs.map V.str) ∧ xs.length < 64 ∧ ∀ (ys : List Str) (p : Addr), ys.Perm xs → sortedS ys = true → H p = none → Q (.ref p) (upd H p (.lst (ys.map V.str)))
theorem sortTK {K : PySem.W.Frag} (h : X.K = K) : CallR X (.builtin "sorted") (rSortT K) := by
  subst h
  intro pins s σ H vs us Q I rel told
  obtain ⟨a, xs, rfl, hs, few, q⟩ := told
  obtain ⟨u, rfl, ru⟩ := vals1 rel
  cases ru
  obtain ⟨its, rv, pt, _⟩ := I.tuple hs
  have len := rv.length
  rw [List.length_map] at len
  refine sorted_tuple (us := its) pt rv.strs (by omega) fun out ys h1 h2 h3 => ?_
  obtain ⟨ep, at_p⟩ := PyProof.Rows.sortedAll_at s.heap its out
  have fits : (ys.map V.str).length ≤ sizeLine := by
    rw [List.length_map, h2.length_eq]
    exact small64 few
  exact ⟨.ref _, upd H (s.heap.objs.size + 1) (.lst (ys.map V.str)), I.laid (t' := s.toks) (fun _ _ => PyProof.Rows.sortedAll_old) (Nat.le_succ _) ⟨fits, out.toList, ep, vals_of_strs h1, at_p⟩, rfl, q ys _ h2 h3 (I.hok.fresh (Nat.le_succ _))⟩
end
/-! ### one sorted row alone -/
def leS (x y : Str) : Prop := x.cps.toList ≤ y.cps.toList
theorem rising_le : ∀ {r : List Str} {p : Str}, risingS p r = true → ∀ y ∈ r, leS p y
  | [], _, _, y, h => by cases h
  | x :: r, p, h, y, hy => by
    simp only [risingS, Bool.and_eq_true, Bool.not_eq_true', ltCps_eq, decide_eq_false_iff_not] at h
    have px : leS p x := List.not_lt.mp h.1
    rcases List.mem_cons.mp hy with rfl | hy
    · exact px
    · exact List.le_trans px (rising_le h.2 y hy)
theorem rising_tail {r : List Str} {p : Str} (h : risingS p r = true) : sortedS r = true := by
  cases r with
  | nil => rfl
  | cons x r =>
    simp only [risingS, Bool.and_eq_true] at h
    exact h.2
theorem leS_eq {x y : Str} (h : leS x y) (k : leS y x) : x = y := by
  have e : x.cps.toList = y.cps.toList := List.le_antisymm h k
  cases x
  cases y
  simpa using e
theorem sorted_unique : ∀ {xs ys : List Str}, sortedS xs = true → sortedS ys = true → xs.Perm ys → xs = ys
  | [], ys, _, _, p => by
    have := p.length_eq
    cases ys with
    | nil => rfl
    | cons _ _ => simp at this
  | x :: r, [], _, _, p => by
    have := p.length_eq
    simp at this
  | x :: r, y :: q, hx, hy, p => by
    have h1 : ∀ z ∈ r, leS x z := rising_le hx
    have h2 : ∀ z ∈ q, leS y z := rising_le hy
    have e : x = y := by
      have hxm : x ∈ y :: q := p.mem_iff.mp (List.mem_cons_self ..)
      have hym : y ∈ x :: r := p.mem_iff.mpr (List.mem_cons_self ..)
      rcases List.mem_cons.mp hxm with h | h
      · exact h
      · rcases List.mem_cons.mp hym with k | k
        · exact k.symm
        · exact leS_eq (h1 y k) (h2 x h)
    subst e
    rw [sorted_unique (rising_tail hx) (rising_tail hy) (List.Perm.cons_inv p)]
theorem nodes_lenB : ∀ ds : List PyData, ds.length ≤ nodess ds
  | [] => by simp
  | d :: ds => by
    have := nodes_lenB ds
    have : 1 ≤ nodes d := by cases d <;> simp [nodes]
    simp only [List.length_cons, nodess]
    omega
theorem nodes_memB : ∀ {ds : List PyData} {d : PyData}, d ∈ ds → nodes d ≤ nodess ds
  | [], _, h => by cases h
  | e :: ds, d, h => by
    simp only [nodess]
    rcases List.mem_cons.mp h with rfl | h
    · omega
    · have := nodes_memB h
      omega
theorem oks_memB {B : Nat} : ∀ {ds : List PyData}, okDs B ds → ∀ d ∈ ds, okD B d
  | [], _, d, h => by cases h
  | e :: ds, o, d, h => by
    simp only [okDs] at o
    rcases List.mem_cons.mp h with rfl | h
    · exact o.1
    · exact oks_memB o.2 d h
def insS (x : Str) : List Str → List Str
  | [] => [x]
  | y :: r => if y.cps.toList < x.cps.toList then y :: insS x r else x :: y :: r
theorem insS_perm (x : Str) : ∀ r : List Str, (insS x r).Perm (x :: r)
  | [] => List.Perm.refl _
  | y :: r => by
    unfold insS
    split
    · exact ((insS_perm x r).cons y).trans (List.Perm.swap x y r)
    · exact List.Perm.refl _
theorem insS_rise (x : Str) : ∀ {r : List Str} {p : Str}, risingS p r = true → leS p x → risingS p (insS x r) = true
  | [], p, _, h => by
    simp only [insS, risingS, Bool.and_true, Bool.not_eq_true', ltCps_eq, decide_eq_false_iff_not]
    exact List.not_lt.mpr h
  | y :: r, p, hr, h => by
    simp only [risingS, Bool.and_eq_true] at hr
    unfold insS
    split
    · rename_i hy
      simp only [risingS, Bool.and_eq_true]
      exact ⟨hr.1, insS_rise x hr.2 (List.le_of_lt hy)⟩
    · rename_i hy
      simp only [risingS, Bool.and_eq_true, Bool.not_eq_true', ltCps_eq, decide_eq_false_iff_not]
      exact ⟨List.not_lt.mpr h, hy, hr.2⟩
theorem insS_sorted (x : Str) : ∀ {r : List Str}, sortedS r = true → sortedS (insS x r) = true
  | [], _ => rfl
  | y :: r, h => by
    unfold insS
    split
    · rename_i hy
      exact insS_rise x h (List.le_of_lt hy)
    · rename_i hy
      simp only [sortedS, risingS, Bool.and_eq_true, Bool.not_eq_true', ltCps_eq, decide_eq_false_iff_not]
      exact ⟨hy, h⟩
theorem sort_ex : ∀ xs : List Str, ∃ ys : List Str, ys.Perm xs ∧ sortedS ys = true
  | [] => ⟨[], List.Perm.refl _, rfl⟩
  | x :: xs => by
    obtain ⟨ys, h1, h2⟩ := sort_ex xs
    exact ⟨insS x ys, (insS_perm x ys).trans (h1.cons x), insS_sorted x h2⟩
end NL
/-! the law's own call, with the modules' dict held in sight -/
namespace NL
open PySem PySem.Spec PyProof.Rows L2 Evl
section
variable {P : Program} {w : World} {K : PySem.W.Frag} {mg mb : Str → Option Value} {k : Nat} {fa a : Addr} {fd : FuncData} {x : Str} {sp : Sp} {s : Shared} {vals : List Value} {ns : List Int}
theorem held_call (kin : K.In s.heap) (glob : s.heap.Ns mainGlobals mg) (blt : s.heap.Ns builtinsNs mb) (boot : ∀ x : Str, x ≠ "__name__" → mb x = bootBuiltins x) (nolim : s.heap.NoLimit) (gens : s.gens = #[])
    (script : s.heap.get? a = some { cls := .type "list", data := .seq vals.toArray }) (room : Room k callerA) (F : ∀ base : Heap, K.In base → base.Ns mainGlobals mg → FnG P w K mg base k fa fd [x] sp)
    (bind : ∀ (s : Shared) (u : Value), BindsTo s fd ⟨[u], []⟩ [(x, u)]) (H : Hp) (only : ∀ b, H b = none ∨ ∃ o u, H b = some (.frz o u)) (promise : sp [.ref a] H (fun v _ => v = .bl true) E0) (hok : HOk P w H s.heap) (just : ∀ b, H b ≠ none → b = a ∨ b = sysModules) (off : ∀ b, H b ≠ none → K.lookup b = none) :
    codeAny (model P w) callerA (.call (.ref fa) ⟨[.ref a], []⟩) (fun r s' => r = .ok (.ret (.bool true)) ∧ OldK s.heap s'.heap ∧ s'.os = s.os ∧ AllBare s'.gens) s := by
  have free : ∀ {b : Addr} {o : Obj}, s.heap.get? b = some o → b ≠ sysModules → (∀ its n, o.data ≠ .seq its n) → H b = none := by
    intro b o e nsys nseq
    cases hb : H b with
    | none => rfl
    | some u =>
      exfalso
      rcases just b (by rw [hb]; exact fun z => by cases z) with eb | eb
      · subst eb
        rw [script] at e
        cases e
        exact nseq _ _ rfl
      · exact nsys eb
  have seen : ∀ {b : Addr} {m : Str → Option Value}, b ≠ sysModules → s.heap.Ns b m → (hidT s.heap H).Ns b m := by
    intro b m n h
    obtain ⟨o, es, ep, e, d, r⟩ := h
    exact ⟨o, es, ep, hidT_get e (free e n (fun its n z => by rw [d] at z; cases z)), d, r⟩
  have kin' : K.In (hidT s.heap H) := by
    intro b o e
    refine hidT_get (kin b o e) ?_
    cases hb : H b with
    | none => rfl
    | some u =>
      exfalso
      rw [off b (by rw [hb]; exact fun z => by cases z)] at e
      cases e
  have m1 : mainGlobals ≠ sysModules := by decide
  have env0 : Env0 P w K mg (hidT s.heap H) callerA [] s H := by
    refine ⟨rfl, ⟨kin', seen m1 glob, ⟨mb, seen (by decide) blt, boot⟩, ?_⟩, fun b o e => of_hidT e, Nat.le_of_eq (hidT_size _ _), trivial, fun b hb => ?_, hok, .of_eq gens⟩
    · obtain ⟨mc, h1, h2⟩ := nolim
      exact ⟨mc, seen (by decide) h1, h2⟩
    · exact absurd (show b ∈ ([] : List Addr) from hb) (by simp)
  refine codeAny_mono ((F _ kin' (seen m1 glob)).go callerA [] s H ⟨[.ref a], []⟩ [.ref a] [.ref a] _ _ rfl room env0 (bind s (.ref a)) (.cons rfl .nil) promise) fun r s' out => ?_
  match r, out with
  | .error _, out => exact out.elim
  | .ok .next, out => exact out.elim
  | .ok .brk, out => exact out.elim
  | .ok .cont, out => exact out.elim
  | .ok (.ret u), out =>
    obtain ⟨v, H', os, bare, un, hok', ru, hv⟩ := out
    have ev : v = .bl true := hv
    subst ev
    have eu : u = Value.bool true := ru
    subst eu
    refine ⟨rfl, OldK.of_keep fun b o e => ?_, os, bare⟩
    rcases only b with z | ⟨ob, y, z⟩
    · exact un.keep b o e z (fun q => absurd (show b ∈ ([] : List Addr) from q) (by simp)) (by simp)
    · have was := (hok b _ z).1
      have now := (hok' b _ (un.frzs b ob _ z)).1
      rw [e] at was
      cases was
      exact now
theorem law_y {mm : Str → Option Value} (kin : K.In s.heap) (glob : s.heap.Ns mainGlobals mg) (blt : s.heap.Ns builtinsNs mb) (boot : ∀ x : Str, x ≠ "__name__" → mb x = bootBuiltins x) (nolim : s.heap.NoLimit) (mods : s.heap.Ns sysModules mm) (gens : s.gens = #[])
    (script : s.heap.get? a = some { cls := .type "list", data := .seq vals.toArray }) (whole : PyProof.Rows.IntsAre vals ns) (few : ns.length ≤ sizeLine) (room : Room k callerA) (F : ∀ base : Heap, K.In base → base.Ns mainGlobals mg → FnG P w K mg base k fa fd [x] sp)
    (bind : ∀ (s : Shared) (u : Value), BindsTo s fd ⟨[u], []⟩ [(x, u)]) (promise : ∀ H : Hp, Sy K H → SqL K H a (ns.map V.int) → sp [.ref a] H (fun v _ => v = .bl true) E0) :
    codeAny (model P w) callerA (.call (.ref fa) ⟨[.ref a], []⟩) (fun r s' => r = .ok (.ret (.bool true)) ∧ OldK s.heap s'.heap ∧ s'.os = s.os ∧ AllBare s'.gens) s := by
  have rel := vals_ints whole
  have many := whole.length
  obtain ⟨om, es, ep, hm, hd, _⟩ := mods
  have apart : a ≠ sysModules := by
    intro z
    subst z
    rw [script] at hm
    cases hm
    cases hd
  let S : HO := .frz { cls := .type "list", data := .seq vals.toArray } (.lst (ns.map V.int))
  let M : HO := .frz om (.ext fun _ => True)
  let H : Hp := fun b => if b = a then (if K.lookup a = none then some S else none) else if b = sysModules then (if K.lookup sysModules = none then some M else none) else none
  have Ha : H a = if K.lookup a = none then some S else none := if_pos rfl
  have Hm : H sysModules = if K.lookup sysModules = none then some M else none := by
    show (if sysModules = a then _ else _) = _
    rw [if_neg (Ne.symm apart), if_pos rfl]
  have Ho : ∀ b, b ≠ a → b ≠ sysModules → H b = none := fun b h1 h2 => by
    show (if b = a then _ else if b = sysModules then _ else none) = none
    rw [if_neg h1, if_neg h2]
  have okS : ∀ H' : Hp, ObjOk P w H' s.heap a S := fun H' => ⟨script, by rw [List.length_map]; exact few, vals, _, rel, script⟩
  have okM : ∀ H' : Hp, ObjOk P w H' s.heap sysModules M := fun H' => ⟨hm, trivial, ⟨om, hm⟩, fun _ _ _ _ => trivial⟩
  refine held_call kin glob blt boot nolim gens script room F bind H (fun b => ?_) (promise H ?_ ?_) (fun b o z => ?_) (fun b z => ?_) (fun b z => ?_)
  · by_cases h1 : b = a
    · subst h1
      rw [Ha]
      by_cases h2 : K.lookup b = none
      · rw [if_pos h2]
        exact Or.inr ⟨_, _, rfl⟩
      · rw [if_neg h2]
        exact Or.inl rfl
    · by_cases h3 : b = sysModules
      · subst h3
        rw [Hm]
        by_cases h2 : K.lookup sysModules = none
        · rw [if_pos h2]
          exact Or.inr ⟨_, _, rfl⟩
        · rw [if_neg h2]
          exact Or.inl rfl
      · exact Or.inl (Ho b h1 h3)
  · cases h2 : K.lookup sysModules with
    | none => exact Or.inr ⟨om, _, by rw [Hm, if_pos h2]⟩
    | some o => exact Or.inl ⟨o, h2⟩
  · cases h2 : K.lookup a with
    | none => exact Or.inl (Or.inr ⟨_, by rw [Ha, if_pos h2]⟩)
    | some o =>
      have e := kin a o h2
      rw [script] at e
      cases e
      exact Or.inr ⟨_, vals.toArray, _, h2, rfl, rfl, rfl, by rw [List.size_toArray, many]; exact few, by simpa using rel⟩
  · by_cases h1 : b = a
    · subst h1
      rw [Ha] at z
      by_cases h2 : K.lookup b = none
      · rw [if_pos h2] at z
        cases z
        exact okS H
      · rw [if_neg h2] at z
        cases z
    · by_cases h3 : b = sysModules
      · subst h3
        rw [Hm] at z
        by_cases h2 : K.lookup sysModules = none
        · rw [if_pos h2] at z
          cases z
          exact okM H
        · rw [if_neg h2] at z
          cases z
      · rw [Ho b h1 h3] at z
        cases z
  · by_cases h1 : b = a
    · exact Or.inl h1
    · by_cases h3 : b = sysModules
      · exact Or.inr h3
      · exact absurd (Ho b h1 h3) z
  · by_cases h1 : b = a
    · subst h1
      rw [Ha] at z
      by_cases h2 : K.lookup b = none
      · exact h2
      · rw [if_neg h2] at z
        exact absurd rfl z
    · by_cases h3 : b = sysModules
      · subst h3
        rw [Hm] at z
        by_cases h2 : K.lookup sysModules = none
        · exact h2
        · rw [if_neg h2] at z
          exact absurd rfl z
      · exact absurd (Ho b h1 h3) z
end
/-- the goal that the head leaves, from the law's promise; the modules' dict is in sight -/
theorem walk_y {l : PySem.W.OpenLaw} {n k : Nat} {q : Program} {loose : List Str} {XP : (Str → Option Value) → Heap → Prop} {YP : World → Heap → Prop} {d : DefRec} {K : Params → PySem.W.Frag} {sp : PySem.W.Frag → Sp} {x : Str}
    (hn : l.most = some n) (few : n ≤ sizeLine) (hdf : d.params.defaults = []) (himp : importsNone q = true) (room : Room k callerA) (hY : ∀ (w : World) (h : Heap), YP w h → (K w.params).In h)
    (F : ∀ (w : World) (mg : Str → Option Value) (fa : Addr) (h : Heap), (K w.params).In h → h.Ns mainGlobals mg → mg d.name = some (.ref fa) →
      ∃ fd : FuncData, (∀ (s : Shared) (u : Value), BindsTo s fd ⟨[u], []⟩ [(x, u)]) ∧ ∀ base : Heap, (K w.params).In base → base.Ns mainGlobals mg → FnG l.prog w (K w.params) mg base k fa fd [x] (sp (K w.params)))
    (promise : ∀ (K : PySem.W.Frag) (H : Hp) (a : Addr) (ns : List Int), ns.length ≤ n → Sy K H → SqL K H a (ns.map V.int) → sp K [.ref a] H (fun v _ => v = .bl true) E0) :
    PySem.W.WalkO q loose XP YP l.row.toRowW d [] (fun f vs => PySem.call f vs) := by
  refine Att.attach_call hn hdf fun w s₀ s₁ mg mb fa o pm cd doc a vs ns G Y ho hd hcd hmg hobj hints hlen hg => ?_
  have kin := hY w _ Y
  obtain ⟨fd, bind, made⟩ := F w mg fa _ kin G.T.g hmg
  obtain ⟨mm, hmm, _⟩ := (G.T.seer himp).mods
  exact law_y kin G.T.g G.T.b G.T.builtins G.T.nolimit hmm hg hobj hints (Nat.le_trans hlen few) room made bind fun H hs hS => promise _ H a ns hlen hs hS
end NL
/-! len of an object by its own __len__; dict of a tuple of pairs, of a zip of two tuples -/
namespace NL
open PySem L2 Evl
/-! ### len(x), the class has __len__ -/
/-! ### tuple(l): an object that is known to have no dict of its own -/
def rTupF (K : PySem.W.Frag) : List V → Hp → VK → Prop := fun xs H Q =>
  ∃ p ys, xs = [.ref p] ∧ SqL K H p ys ∧ ∀ (l : Addr) (o : Obj), H l = none → o.dict = none → Q (.ref l) (upd H l (.frz o (.tup ys)))
theorem call_tupF {X : Cx} {K : PySem.W.Frag} (hK : X.K = K) : CallR X (.type "tuple") (rTupF K) := by
  subst hK
  intro pins s σ H xs us Q I rv h
  obtain ⟨p, ys, rfl, hq, q⟩ := h
  obtain ⟨u, rfl, ru⟩ := vals1 rv
  cases ru
  obtain ⟨its, ri, pl, hz⟩ := I.list hq
  have hlen := ri.length
  refine PySem.call_tuple_list pl.isList (fun hp kp => ?_) (by simp only [List.size_toArray]; omega)
  have J : Inv X pins σ H { s with heap := hp } := I.kept (t' := s.toks) kp
  exact ⟨.ref hp.objs.size, _, J.laid (o := .frz { cls := .type "tuple", data := .seq its.toArray } (.tup ys)) (t' := s.toks) (fun b o e => Heap.get?_push_of_some _ e) (Nat.le_refl _)
    ⟨Heap.get?_push_size _ rfl, hz, its, ri, PyProof.Rows.IsTup.new _ _⟩, rfl, q _ _ (J.hok.fresh (Nat.le_refl _)) rfl⟩
/-! ### dict(t), t a tuple of pairs -/
def rDictT (K : PySem.W.Frag) : List V → Hp → VK → Prop := fun xs H Q =>
  ∃ (a : Addr) (o : Obj) (ps : List Addr) (kvs : List (Key × V)), xs = [.ref a] ∧ H a = some (.frz o (.tup (ps.map V.ref))) ∧ o.dict = none ∧ Paired (fun p kv => SqT K H p [kV kv.1, kv.2]) ps kvs ∧
    ∀ p, H p = none → Q (.ref p) (upd H p (.dK (mergeK [] kvs)))
theorem prs_of {X : Cx} {pins : List (Addr × Obj)} {σ : L2.St} {H : Hp} {s : Shared} (I : Inv X pins σ H s) : ∀ {ps : List Addr} {kvs : List (Key × V)}, Paired (fun p kv => SqT X.K H p [kV kv.1, kv.2]) ps kvs →
    ∃ (us : List (Value × Value)) (rs : List (Key × Value)), KV kvs rs ∧ us.length = ps.length ∧ rs.length = ps.length ∧
      ∀ (j : Nat) (k v : Value), us[j]? = some (k, v) → (∃ p, ps[j]? = some p ∧ s.heap.IsTuple p #[k, v]) ∧ ∃ r, rs[j]? = some (r, v) ∧ (mixKind X.prog X.w).is r k = true
  | _, _, .nil => ⟨[], [], .nil, rfl, rfl, fun j k v e => by simp at e⟩
  | _, _, .cons (a := p) (b := kv) h t => by
    obtain ⟨us, rs, c, l1, l2, ih⟩ := prs_of I t
    obtain ⟨its, rv, ht, _⟩ := I.tuple h
    obtain ⟨u, y, ei, ru, ry⟩ := vals2 rv
    subst ei
    refine ⟨(u, y) :: us, (kv.1, y) :: rs, .cons ⟨rfl, ry⟩ c, by simp [l1], by simp [l2], fun j k v e => ?_⟩
    cases j with
    | zero =>
      cases Option.some.inj e
      exact ⟨⟨p, rfl, ht⟩, kv.1, rfl, kV_is ru⟩
    | succ j => exact ih j k v (by simpa using e)
theorem call_dictT {X : Cx} {K : PySem.W.Frag} (hK : X.K = K) (hcalm : X.calm = true) : CallR X (.type "dict") (rDictT K) := by
  subst hK
  intro pins s σ H xs us Q I rv h
  obtain ⟨a, o, ps, kvs, rfl, hq, hdn, hp, q⟩ := h
  obtain ⟨u, rfl, ru⟩ := vals1 rv
  cases ru
  obtain ⟨e1, hz, its, ri, o', e2, hc, n, hdat⟩ := I.hok a _ hq
  rw [e1] at e2
  cases e2
  have hits := refs_at ri
  subst hits
  rw [List.length_map] at hz
  obtain ⟨prs, rs, rel, l1, l2, hpr⟩ := prs_of I hp
  have sz : ((ps.map Value.ref).toArray).size = prs.length := by simp [l1]
  refine PySem.call_dict_pairs (knd := mixKind X.prog X.w) (kvs := rs) (PySem.PairArg.tuple a (ps.map Value.ref).toArray (fun j => ps.getD j 0) prs) (I.ok.hd hcalm) ⟨⟨o, n, e1, hc, hdn, hdat⟩, sz, fun j k v e => ?_⟩ ⟨by rw [l1, l2], fun i k v e => (hpr i k v e).2⟩ (by rw [l1]; exact hz) fun hp' tk hd' kp => ?_
  · obtain ⟨⟨p, hj, ht⟩, _⟩ := hpr j k v e
    refine ⟨?_, Or.inl ?_⟩
    · simp [hj, List.getD]
    · simpa [hj, List.getD] using ht
  · have hm : (s.heap.objs.size == sysModules) = false := beq_eq_false_iff_ne.mpr (Nat.ne_of_gt I.big)
    have hlen : (mergeK [] kvs).length ≤ sizeLine := by
      have z := length_mergeK kvs []
      rw [List.length_nil, rel.length, l2] at z
      omega
    exact ⟨.ref s.heap.objs.size, _, I.laid (o := .dK (mergeK [] kvs)) (t' := tk) (fun b ob e => kp b ob (by simp) e) (Nat.le_refl _) ⟨hlen, hm, merged [] rs, KV.merge rel .nil, hd'⟩, rfl, q _ (I.hok.fresh (Nat.le_refl _))⟩
/-! ### dict(zip(s, t)), s and t tuples -/
section
variable {prog : Program} {w : World} {A : Around} {E : Value → Shared → Prop} {s : Shared}
/-- a further step of a zip whose last tuple is still held: by the steps of the two iterators -/
theorem zipH_go {c ti out T i j : Addr} {f : Bool} {oT : Obj} {Q : Fin → Shared → Prop} (hc : IsZipHeld s.heap c ti out T f) (hT : s.heap.get? T = some oT) (hi : IsPair s.heap ti (.ref i) (.ref j))
    (st : ∀ g, IsZipHeld g c ti out T true → Heap.SameBut c s.heap g → wpAny (model prog w) A (Builtin.SmallTypes.nextOf (.ref i)) (fun x s2 =>
      wpAny (model prog w) A (Builtin.SmallTypes.nextOf (.ref j)) (fun y s3 => Q (.done (.ret (.ref s3.heap.objs.size))) { s3 with heap := s3.heap.push { cls := .type "tuple", data := .seq #[x, y] } }) E s2) E { s with heap := g }) :
    wpAny (model prog w) A (Builtin.«zip.__next__» ⟨[.ref c], []⟩) Q E s := by
  show wpAny _ _ (field (.ref c) 2 >>= _) _ _ _
  refine wpAny_bind (wpAny_field hc rfl (x := .bool false) rfl ?_)
  show wpAny _ _ (field (.ref c) 3 >>= _) _ _ _
  refine wpAny_bind (wpAny_field hc rfl (x := .ref ti) rfl (wpAny_bind (wpAny_seqItems hi rfl ?_)))
  show wpAny _ _ (Builtin.SmallTypes.ownedTupleIsFree (.ref c) >>= _) _ _ _
  refine wpAny_bind (wpAny_tupleHeld_zip hc hT fun g hg sg => ?_)
  simp only [if_false, Bool.false_eq_true]
  refine wpAny_bind ?_
  rw [← Array.forIn_toList]
  simp only [List.forIn_nil, List.forIn_cons]
  refine wpAny_bind (wpAny_bind (wpAny_holding (wpAny_bind (wpAny_mono (st g hg sg) (fun u1 s2 k => wpAny_pure (wpAny_pure ?_)) fun _ _ z => z))))
  refine wpAny_bind (wpAny_bind (wpAny_holding (wpAny_bind (wpAny_mono k (fun u2 s3 k' => wpAny_pure (wpAny_pure (wpAny_pure ?_))) fun _ _ z => z))))
  show wpAny _ _ (newTuple [u1, u2] >>= _) _ _ _
  exact wpAny_bind (wpAny_newTuple (wpAny_pure k'))
/-- the same for next(..) -/
theorem zipH_next {c ti out T i j a b : Addr} {f : Bool} {oT : Obj} {m : Nat} {xs ys : Array Value} {Q : Option Value → Shared → Prop} (hh : A.handled = none) (D : ZipApart c ti out i j a b)
    (hc : IsZipHeld s.heap c ti out T f) (hT : s.heap.get? T = some oT) (hi : IsPair s.heap ti (.ref i) (.ref j)) (h1 : s.heap.IsTupleIter i a m) (h2 : s.heap.IsTupleIter j b m) (p1 : s.heap.IsTuple a xs) (p2 : s.heap.IsTuple b ys)
    (hx : ∀ x y, xs[m]? = some x → ys[m]? = some y → ∀ g, IsZipHeld g c ti out T true → g.IsTupleIter i a (m + 1) → g.IsTupleIter j b (m + 1) → IsPair g s.heap.objs.size x y →
      (∀ d o, d ≠ c → d ≠ i → d ≠ j → s.heap.get? d = some o → g.get? d = some o) → Q (some (.ref s.heap.objs.size)) { s with heap := g })
    (he : xs[m]? = none ∨ ys[m]? = none → ∀ g, (∀ d o, d ≠ c → d ≠ i → d ≠ j → s.heap.get? d = some o → g.get? d = some o) → Q none { s with heap := g }) : wpAny (model prog w) A (pyNext (.ref c)) Q E s := by
  have ty : s.TypeIs (.ref c) "zip" := ⟨_, hc, rfl⟩
  have stop : ∀ (g : Heap) (e : Addr), (xs[m]? = none ∨ ys[m]? = none) → (∀ d o, d ≠ c → d ≠ i → d ≠ j → s.heap.get? d = some o → g.get? d = some o) → (∃ o, g.get? e = some o ∧ o.cls = .type "StopIteration") →
      wpAny (model prog w) A (isInstance (.ref e) (.type "StopIteration") >>= fun b => if b = true then pure none else throw (Value.ref e)) Q E { s with heap := g } := fun g e hn k z => by
    obtain ⟨o, ho, hcl⟩ := z
    refine wpAny_bind (wpAny_isInstance (T := "StopIteration") (b := true) ⟨o, ho, hcl⟩ isSubtype_stop ?_)
    exact wpAny_pure (he hn g k)
  unfold pyNext
  refine wpAny_bind (wpAny_attempt (wpAny_callSpecial?_slot (name := Str.ofString "__next__") ty F.slot_zip_next (wpAny_call_entry F.slot_zip_next ty F.entry_zip_next (zipH_go hc hT hi fun g1 hg1 sg1 => ?_) (F.args_zip_next_1 _))))
  have q1 := h1.extBut sg1.extBut D.i1z
  have t1 := p1.extBut sg1.extBut D.l1z
  cases ex : xs[m]? with
  | none => exact RZ.nextOf_tuple_end hh q1 t1 ex fun g2 e k z => stop g2 e (Or.inl ex) (fun d o d1 d2 d3 v => k _ _ d2 (sg1.extBut _ _ d1 v)) z
  | some x =>
    refine RZ.nextOf_tuple_item q1 t1 ex fun g2 q2 sg2 => ?_
    have u2 := (h2.extBut sg1.extBut D.i2z).extBut sg2.extBut D.i12.symm
    have t2 := (p2.extBut sg1.extBut D.l2z).extBut sg2.extBut D.l2i1
    cases ey : ys[m]? with
    | none => exact RZ.nextOf_tuple_end hh u2 t2 ey fun g3 e k z => stop g3 e (Or.inr ey) (fun d o d1 d2 d3 v => k _ _ d3 (sg2.extBut _ _ d2 (sg1.extBut _ _ d1 v))) z
    | some y =>
      refine RZ.nextOf_tuple_item u2 t2 ey fun g3 u3 sg3 => ?_
      have sz : g3.objs.size = s.heap.objs.size := by rw [sg3.1, sg2.1, sg1.1]
      refine ⟨_, rfl, wpAny_pure ?_⟩
      have pr : IsPair (g3.push { cls := .type "tuple", data := .seq #[x, y] }) g3.objs.size x y := Heap.get?_push_size _ rfl
      rw [sz] at pr
      have hq := hx x y ex ey (g3.push { cls := .type "tuple", data := .seq #[x, y] }) (Heap.get?_push_of_some _ (sg3.extBut _ _ D.i2z.symm (sg2.extBut _ _ D.i1z.symm hg1))) ((q2.extBut sg3.extBut D.i12).at fun o z => Heap.get?_push_of_some _ z) (u3.at fun o z => Heap.get?_push_of_some _ z) pr
        fun d o d1 d2 d3 z => Heap.get?_push_of_some _ (sg3.extBut _ _ d3 (sg2.extBut _ _ d2 (sg1.extBut _ _ d1 z)))
      rw [← sz] at hq
      exact hq
/-- what a zip of two tuples is ahead of its step m: no tuple handed out yet, or one that is held -/
def ZipS (c ti out i j a b d : Addr) (xs ys : Array Value) (m : Nat) (h : Heap) : Prop :=
  IsPair h ti (.ref i) (.ref j) ∧ h.IsTupleIter i a m ∧ h.IsTupleIter j b m ∧ h.IsTuple a xs ∧ h.IsTuple b ys ∧
    ((IsZip h c ti out .none ∧ ∃ x y, IsPair h out x y) ∨ ∃ T f oT, IsZipHeld h c ti out T f ∧ h.get? T = some oT ∧ T ≠ c ∧ T ≠ i ∧ T ≠ j ∧ T ≠ d)
def Zip0 (c ti out i j a b : Addr) (xs ys : Array Value) (h : Heap) : Prop :=
  IsPair h ti (.ref i) (.ref j) ∧ h.IsTupleIter i a 0 ∧ h.IsTupleIter j b 0 ∧ h.IsTuple a xs ∧ h.IsTuple b ys ∧ IsZip h c ti out .none ∧ ∃ x y, IsPair h out x y
theorem ZipS.src {c ti out i j a b d : Addr} {xs ys : Array Value} (hh : A.handled = none) (D : ZipApart c ti out i j a b) (hsz : xs.size = ys.size)
    (n1 : ti ≠ d) (n2 : i ≠ d) (n3 : j ≠ d) (n4 : a ≠ d) (n5 : b ≠ d) (n6 : c ≠ d) (n7 : out ≠ d) :
    PairSrc prog w A c d [c, out, i, j] xs.size (fun m k v => xs[m]? = some k ∧ ys[m]? = some v) (ZipS c ti out i j a b d xs ys) where
  off := by
    simp only [List.mem_cons, List.not_mem_nil, or_false, not_or]
    exact ⟨n6.symm, n7.symm, n2.symm, n3.symm⟩
  frame := by
    rintro m h g ⟨z1, z2, z3, z4, z5, z6⟩ k
    refine ⟨k _ _ n1 z1, z2.at fun o e => k _ o n2 e, z3.at fun o e => k _ o n3 e, z4.at fun o e => k _ o n4 e, z5.at fun o e => k _ o n5 e, ?_⟩
    rcases z6 with ⟨z, x, y, e⟩ | ⟨T, f, oT, z, e, r⟩
    · exact Or.inl ⟨k _ _ n6 z, x, y, k _ _ n7 e⟩
    · exact Or.inr ⟨T, f, oT, k _ _ n6 z, k _ _ r.2.2.2 e, r⟩
  item := by
    rintro m s Q E hm ⟨z1, z2, z3, z4, z5, z6⟩ hd hQ
    have ex := Array.getElem?_eq_getElem hm
    have ey := Array.getElem?_eq_getElem (show m < ys.size by omega)
    have far : ∀ {q : Addr} {o : Obj}, s.heap.get? q = some o → s.heap.objs.size ≠ q := fun e => Nat.ne_of_gt (Heap.lt_size e)
    have f2 : s.heap.objs.size ≠ i := let ⟨_, e, _⟩ := z2; far e
    have f3 : s.heap.objs.size ≠ j := let ⟨_, e, _⟩ := z3; far e
    have out4 : ∀ {q : Addr}, q ∉ [c, out, i, j] → q ≠ c ∧ q ≠ out ∧ q ≠ i ∧ q ≠ j := fun h => by simpa using h
    rcases z6 with ⟨z, x, y, e⟩ | ⟨T, f, oT, z, e, r⟩
    · refine RZ.pyNext_zipT_item D z z1 e z2 z3 z4 z5 ex ey fun g a1 a2 a3 a4 a5 a6 k => ?_
      refine hQ _ _ _ g s.toks ⟨ex, ey⟩ (Or.inl ⟨_, a5, rfl, _, rfl⟩) ⟨k _ _ D.TIz D.TITO D.TIi1 D.TIi2 z1, a3, a4, z4.at fun o q => k _ o D.l1z D.l1TO D.l1i1 D.l1i2 q, z5.at fun o q => k _ o D.l2z D.l2TO D.l2i1 D.l2i2 q, Or.inr ⟨_, false, _, a1, a5, far z, f2, f3, Nat.ne_of_gt hd⟩⟩ fun q o hq e => ?_
      have v := out4 hq
      exact k q o v.1 v.2.1 v.2.2.1 v.2.2.2 e
    · refine zipH_next hh D z e z1 z2 z3 z4 z5 (fun x y ex' ey' g a1 a3 a4 a5 k => ?_) fun hn => ?_
      · refine hQ _ _ _ g s.toks ⟨ex', ey'⟩ (Or.inl ⟨_, a5, rfl, _, rfl⟩) ⟨k _ _ D.TIz D.TIi1 D.TIi2 z1, a3, a4, z4.at fun o q => k _ o D.l1z D.l1i1 D.l1i2 q, z5.at fun o q => k _ o D.l2z D.l2i1 D.l2i2 q, Or.inr ⟨T, true, oT, a1, k _ _ r.1 r.2.1 r.2.2.1 e, r⟩⟩ fun q o hq e => ?_
        have v := out4 hq
        exact k q o v.1 v.2.2.1 v.2.2.2 e
      · rw [ex, ey] at hn
        rcases hn with hn | hn <;> cases hn
  done := by
    rintro s Q E ⟨z1, z2, z3, z4, z5, z6⟩ hQ
    have ex : xs[xs.size]? = none := Array.getElem?_eq_none (Nat.le_refl _)
    have out4 : ∀ {q : Addr}, q ∉ [c, out, i, j] → q ≠ c ∧ q ≠ out ∧ q ≠ i ∧ q ≠ j := fun h => by simpa using h
    rcases z6 with ⟨z, x, y, e⟩ | ⟨T, f, oT, z, e, r⟩
    · refine RZ.pyNext_zipT_end hh D z z1 e z2 z3 z4 z5 (Or.inl ex) fun g k => hQ g s.toks fun q o hq e => ?_
      have v := out4 hq
      exact k q o v.1 v.2.1 v.2.2.1 v.2.2.2 e
    · refine zipH_next hh D z e z1 z2 z3 z4 z5 (fun x y ex' => by rw [ex] at ex'; cases ex') fun _ g k => hQ g s.toks fun q o hq e => ?_
      have v := out4 hq
      exact k q o v.1 v.2.2.1 v.2.2.2 e
theorem zip_arg {c ti out i j a b : Addr} {xs ys : Array Value} (D : ZipApart c ti out i j a b) (hsz : xs.size = ys.size) :
    PairArg prog w "zip" c [c, ti, out, i, j, a, b] [c, out, i, j] xs.size (fun m k v => xs[m]? = some k ∧ ys[m]? = some v) (Zip0 c ti out i j a b xs ys) where
  type := fun s ⟨_, _, _, _, _, z, _⟩ => ⟨_, z, rfl⟩
  notDict := by decide
  keep := by
    rintro h g ⟨z1, z2, z3, z4, z5, z, x, y, e⟩ k
    exact ⟨k _ _ z1, z2.at fun o e => k _ o e, z3.at fun o e => k _ o e, z4.at fun o e => k _ o e, z5.at fun o e => k _ o e, k _ _ z, x, y, k _ _ e⟩
  there := by
    rintro h ⟨z1, ⟨_, z2, _⟩, ⟨_, z3, _⟩, ⟨_, z4, _⟩, ⟨_, z5, _⟩, z, x, y, e⟩ q hq
    simp only [List.mem_cons, List.not_mem_nil, or_false] at hq
    rcases hq with rfl | rfl | rfl | rfl | rfl | rfl | rfl
    · exact ⟨_, z⟩
    · exact ⟨_, z1⟩
    · exact ⟨_, e⟩
    · exact ⟨_, z2⟩
    · exact ⟨_, z3⟩
    · exact ⟨_, z4⟩
    · exact ⟨_, z5⟩
  sub := by
    intro q hq
    simp only [List.mem_cons, List.not_mem_nil, or_false] at hq ⊢
    rcases hq with rfl | rfl | rfl | rfl <;> simp
  noKeys := fun A s Q E hA ⟨_, _, _, _, _, z, _⟩ h => getAttrOr_miss_zip z rfl rfl rfl zip_no_keys (by decide +kernel) hA h
  iter := by
    rintro A s d Q E hA ⟨z1, z2, z3, z4, z5, z, x, y, e⟩ hd hn h
    simp only [List.mem_cons, List.not_mem_nil, or_false, not_or] at hn
    obtain ⟨n1, n2, n3, n4, n5, n6, n7⟩ := hn
    exact wpAny_pyIter_zip z (h c [c, out, i, j] _ s.heap s.toks (ZipS.src hA D hsz (Ne.symm n2) (Ne.symm n4) (Ne.symm n5) (Ne.symm n6) (Ne.symm n7) (Ne.symm n1) (Ne.symm n3)) ⟨z1, z2, z3, z4, z5, Or.inl ⟨z, x, y, e⟩⟩ (fun _ _ q => q) fun _ q => Or.inl q)
end
/-- dict(zip(s, t)): s as many keys as t has values -/
def tDictZ (K : PySem.W.Frag) (ta : TA) : TE := fun σ H Q => ta σ H fun vs H1 => ∃ (a b : Addr) (ks : List Key) (ys : List V), vs = [.ref a, .ref b] ∧ SqT K H1 a (ks.map kV) ∧ SqT K H1 b ys ∧ ks.length = ys.length ∧
  ∀ p, H1 p = none → Q (.ref p) (upd H1 p (.dK (mergeK [] (ks.zip ys))))
theorem kv_zip {P : Program} {w : World} : ∀ {ks : List Key} {ys : List V} {us rs : List Value}, Vals (ks.map kV) us → Vals ys rs → ks.length = ys.length → KV (ks.zip ys) (ks.zip rs) ∧ ∀ (m : Nat) (k v : Value), us[m]? = some k → rs[m]? = some v → ∃ r, (ks.zip rs)[m]? = some (r, v) ∧ (mixKind P w).is r k = true
  | [], ys, us, rs, r1, r2, hl => by
    cases ys with
    | nil => exact ⟨.nil, fun m k v e => by cases r1; simp at e⟩
    | cons y ys => cases hl
  | k :: ks, ys, us, rs, r1, r2, hl => by
    cases r1 with
    | cons q1 r1 =>
      cases r2 with
      | nil => cases hl
      | cons q2 r2 =>
        obtain ⟨i1, i2⟩ := kv_zip (P := P) (w := w) r1 r2 (Nat.succ.inj hl)
        refine ⟨.cons ⟨rfl, q2⟩ i1, fun m k' v e1 e2 => ?_⟩
        cases m with
        | zero =>
          cases Option.some.inj e1
          cases Option.some.inj e2
          exact ⟨k, rfl, kV_is q1⟩
        | succ m => exact i2 m k' v (by simpa using e1) (by simpa using e2)
theorem pe_dictZ {X : Cx} {K : PySem.W.Frag} (hK : X.K = K) {e e2 : Expr} {ta : TA} {p p2 q pos : Pos} (hg : Gl X "dict") (hm : X.mg "dict" = none) (hg2 : Gl X "zip") (hm2 : X.mg "zip" = none) (ha : PA X [e, e2] ta) (hc : X.calm = true := by rfl)
    (hs : starEach [e, e2] X.env = (false, eval e X.env) :: starEach [e2] X.env := by rfl) (hpl : (backTo q (starEach [e2] X.env)).any (·.1) = false := by rfl) :
    PE X (.Call (.Name "dict" p) [.Call (.Name "zip" p2) [e, e2] [] q] [] pos) (tDictZ K ta) := by
  subst hK
  refine ⟨fun pins s σ H Q I h => ?_⟩
  refine PyProof.Rows.Call_ (ld_blt I hg hm PyProof.Rows.boot_dict ?_)
  refine PyProof.Rows.callWith_type1 (PyProof.Rows.args_cons ?_ rfl) rfl rfl
  refine PyProof.Rows.Call_ (ld_blt I hg2 hm2 PyProof.Rows.boot_zip (PyProof.Rows.callWith_type1 (thn (ha.run q pins s σ H _ I h) fun us s1 ⟨vs, H1, I1, r1, q1⟩ => ?_) hs hpl))
  obtain ⟨a, b, ks, ys, ex, hqx, hqy, hl, q1⟩ := q1
  subst ex
  obtain ⟨u1, u2, eu, v1, v2⟩ := vals2 r1
  subst eu
  cases v1
  cases v2
  obtain ⟨its, rv, p1, hz⟩ := I1.tuple hqx
  obtain ⟨its2, rv2, p2, _⟩ := I1.tuple hqy
  obtain ⟨o1, ho1, _⟩ := id p1
  obtain ⟨o2, ho2, _⟩ := id p2
  obtain ⟨rel, hits⟩ := kv_zip (P := X.prog) (w := X.w) rv rv2 hl
  have l1 := rv.length
  have l2 := rv2.length
  rw [List.length_map] at l1 hz
  refine RZ.call_zipT (show s1.heap.IsTuple a its.toArray from p1) (show s1.heap.IsTuple b its2.toArray from p2) fun h' hz' hTI hTO h1 h2 hsz hk => ?_
  refine PyProof.Rows.args_nil ?_
  have D := PySem.W.ktu_apart s1.heap.objs.size a b (Heap.lt_size ho1) (Heap.lt_size ho2)
  refine PySem.call_dict_pairs (s := { s1 with heap := h' }) (knd := mixKind X.prog X.w) (kvs := ks.zip its2) (zip_arg (xs := its.toArray) (ys := its2.toArray) D (by simp only [List.size_toArray]; omega)) (I1.ok.hd hc)
    ⟨hTI, h1, h2, (show s1.heap.IsTuple a its.toArray from p1).at fun o e => hk _ o e, (show s1.heap.IsTuple b its2.toArray from p2).at fun o e => hk _ o e, hz', _, _, hTO⟩
    ⟨by rw [List.length_zip, List.size_toArray]; omega, fun m k v e => hits m k v (by simpa using e.1) (by simpa using e.2)⟩ (by rw [List.size_toArray]; omega) fun g tk hd kp => ?_
  have big : s1.heap.objs.size ≤ h'.objs.size := by omega
  have hm : (h'.objs.size == sysModules) = false := beq_eq_false_iff_ne.mpr (Nat.ne_of_gt (Nat.lt_of_lt_of_le I1.big big))
  have hlen : (mergeK [] (ks.zip ys)).length ≤ sizeLine := by
    have z := length_mergeK (ks.zip ys) []
    rw [List.length_nil, List.length_zip] at z
    omega
  have old : ∀ c o, s1.heap.get? c = some o → g.get? c = some o := fun c o z => kp c o (by
    have lt := Heap.lt_size z
    simp only [List.mem_cons, List.not_mem_nil, or_false, not_or]
    exact ⟨Nat.ne_of_lt (Nat.lt_of_lt_of_le lt (Nat.le_add_right _ _)), Nat.ne_of_lt (Nat.lt_of_lt_of_le lt (Nat.le_add_right _ _)), Nat.ne_of_lt lt, Nat.ne_of_lt (Nat.lt_of_lt_of_le lt (Nat.le_add_right _ _))⟩) (hk c o z)
  exact ⟨.ref h'.objs.size, _, I1.laid (o := .dK (mergeK [] (ks.zip ys))) (t' := tk) old big ⟨hlen, hm, merged [] (ks.zip its2), KV.merge rel .nil, hd⟩, rfl, q1 _ (I1.hok.fresh big)⟩
end NL
/-! a step, as a plain function: hands and groups by their names -/
namespace NL
open PySem L2 Evl
inductive How where
  | out | loose | waits | within
deriving DecidableEq
def How.str : How → Str
  | .out => "out" | .loose => "loose" | .waits => "waits" | .within => "within"
structure HR where
  row : Int
  last : Int
  how : How
  looks : Option Int
deriving DecidableEq
structure GR where
  holder : Option Str
  count : Int
  places : List (Str × Bool)
deriving DecidableEq
inductive Row where
  | take (l : Option Int) | tri | let_ | say (n : Int) | goto (n : Int) | iff (a n : Int)
deriving DecidableEq
section
variable {α : Type}
def getN : List (Str × α) → Str → Option α
  | [], _ => none
  | (k, v) :: r, n => if k = n then some v else getN r n
def setN : List (Str × α) → Str → α → List (Str × α)
  | [], _, _ => []
  | (k, v) :: r, n, w => (k, if k = n then w else v) :: setN r n w
theorem getN_set : ∀ (xs : List (Str × α)) (n m : Str) (w : α), getN (setN xs n w) m = if m = n then (getN xs n).map (fun _ => w) else getN xs m
  | [], n, m, w => by simp [getN, setN]
  | (k, v) :: r, n, m, w => by
    have ih := getN_set r n m w
    simp only [setN, getN]
    by_cases h1 : k = m
    · subst h1
      by_cases h2 : k = n
      · subst h2
        simp
      · simp [h2]
    · by_cases h2 : m = n
      · subst h2
        simp [h1, ih]
      · simp [h1, h2, ih]
theorem getN_same {xs : List (Str × α)} {n : Str} {v w : α} (h : getN xs n = some v) : getN (setN xs n w) n = some w := by rw [getN_set, if_pos rfl, h]; rfl
theorem getN_other {xs : List (Str × α)} {n m : Str} {w : α} (h : m ≠ n) : getN (setN xs n w) m = getN xs m := by rw [getN_set, if_neg h]
theorem keys_set : ∀ (xs : List (Str × α)) (n : Str) (w : α), (setN xs n w).map (·.1) = xs.map (·.1)
  | [], _, _ => rfl
  | (k, v) :: r, n, w => by simp only [setN, List.map_cons, keys_set r]
theorem len_set (xs : List (Str × α)) (n : Str) (w : α) : (setN xs n w).length = xs.length := by
  have := congrArg List.length (keys_set xs n w)
  simpa using this
theorem getN_isSome : ∀ (xs : List (Str × α)) (n : Str), (getN xs n).isSome = decide (n ∈ xs.map (·.1))
  | [], n => by simp [getN]
  | (k, v) :: r, n => by
    by_cases h : k = n
    · simp [getN, h]
    · have h' : ¬ n = k := fun z => h z.symm
      simp [getN, h, h', getN_isSome r n]
end
abbrev e2 (a : String) (x : Str) : PyData := .tuple [.str a, .str x]
abbrev e3 (a : String) (x y : Str) : PyData := .tuple [.str a, .str x, .str y]
abbrev e4 (a : String) (x y z : Str) : PyData := .tuple [.str a, .str x, .str y, .str z]
abbrev e3i (a : String) (x : Str) (i : Int) : PyData := .tuple [.str a, .str x, .int i]
structure DS where
  hs : List (Str × HR)
  gs : List (Str × GR)
  told : List PyData
  firsts : List Str
def DS.tell (d : DS) (e : PyData) : DS := { d with told := d.told ++ [e] }
def DS.setH (d : DS) (n : Str) (r : HR) : DS := { d with hs := setN d.hs n r }
def DS.setG (d : DS) (n : Str) (g : GR) : DS := { d with gs := setN d.gs n g }
structure Sta where
  paths : List (Str × List Str)
  bounds : List (Str × Int)
  progs : List (Str × List Row)
def DS.loose (d : DS) (m : Str) : Bool := match getN d.hs m with
  | some r => decide (r.how = .loose)
  | none => false
def came (d : DS) (m : Str) : DS := match getN d.hs m with
  | some r => (d.setH m ⟨r.row + 1, 1, .within, none⟩).tell (e2 "came" m)
  | none => d
def giveLock : Nat → DS → Str → DS
  | 0, d, _ => d
  | k + 1, d, m => match getN d.gs m with
    | some g => giveLock k (d.setG m { g with count := 1 }) (g.holder.getD m)
    | none => came d m
abbrev FU : Nat := 64
def addPlace (d : DS) (m g : Str) : DS := match getN d.gs g with
  | some r => d.setG g { r with places := r.places ++ [(m, true)] }
  | none => d
def standL (hand : Str) (r : HR) (looks : Option Int) : DS → Str → List Str → DS
  | d, m, [] => giveLock FU d m
  | d, m, g :: p => match getN d.gs g with
    | some gr => if gr.holder.isSome then
        (if m = hand then ((addPlace d m g).tell (e3 "stood" m g)).setH hand ⟨r.row, r.last, .loose, looks⟩ else (addPlace d m g).tell (e3 "stood" m g))
      else standL hand r looks ((d.setG g { gr with holder := some m }).tell (e3 "held" m g)) g p
    | none => d
def stand (s : Sta) (d : DS) (hand : Str) (looks : Option Int) : DS := match getN d.hs hand, getN s.paths hand with
  | some r, some p => standL hand r looks (d.setH hand ⟨r.row, r.last, .waits, looks⟩) hand p
  | _, _ => d
/-- left places at the front are gone; who is first then -/
def passLeft (d : DS) (g : Str) : DS × Option Str := match getN d.gs g with
  | some r =>
    let rest := r.places.dropWhile fun p => !p.2
    let d1 : DS := { d with gs := setN d.gs g { r with places := rest }, told := d.told ++ (r.places.takeWhile fun p => !p.2).map fun p => e3 "passed" p.1 g }
    match rest with
    | [] => (d1, none)
    | p :: _ => ({ d1 with firsts := d1.firsts ++ [p.1] }, some p.1)
  | none => (d, none)
def handOn (d : DS) (g why : Str) (count : Int) : DS × Str := match getN d.gs g with
  | some r => (match r.places with
    | p :: rest => ((d.setG g ⟨some p.1, count, rest⟩).tell (e4 "handed" p.1 g why), p.1)
    | [] => (d, g))
  | none => (d, g)
def countOf (d : DS) (g : Str) : Int := match getN d.gs g with
  | some r => r.count
  | none => 0
def handNear (d : DS) (g : Str) (top : Bool) : DS :=
  let r := handOn d g "near" (if top then countOf d g else countOf d g + 1)
  giveLock FU r.1 r.2
def handOver (d : DS) (g around : Str) : DS := addPlace (handOn d g "over" 0).1 g around
def makeBare (d : DS) (g : Str) : DS := (d.setG g ⟨none, 0, []⟩).tell (e2 "bare" g)
def isBelow (s : Sta) (d : DS) (g : Str) : Bool := match getN s.bounds g with
  | some b => decide (countOf d g < b)
  | none => false
def letGoL (s : Sta) : DS → List Str → DS × Bool
  | d, [] => (d, true)
  | d, g :: p => match passLeft d g with
    | (d1, none) => letGoL s (makeBare d1 g) p
    | (d1, some m) => if d1.loose m then (d1, false) else if p.isEmpty || isBelow s d1 g then (handNear d1 g p.isEmpty, true) else letGoL s (handOver d1 g (p.headD g)) p
def letGo (s : Sta) (d : DS) (hand : Str) : DS × Bool := match getN d.hs hand, getN s.paths hand with
  | some r, some p => letGoL s ((d.setH hand ⟨r.row + 1, 0, .out, none⟩).tell (e2 "let" hand)) p
  | _, _ => (d, true)
def without (ps : List (Str × Bool)) (m : Str) : List (Str × Bool) := ps.map fun p => (p.1, p.2 && !decide (p.1 = m))
def leaveL : DS → Str → List Str → DS × Bool
  | d, _, [] => (d, true)
  | d, m, g :: p => match getN d.gs g with
    | none => (d, true)
    | some r => if r.holder ≠ some m then ((d.tell (e2 "left" m)).setG g { r with places := without r.places m }, true) else
      match passLeft (d.tell (e2 "left" m)) g with
      | (d1, none) => leaveL (makeBare d1 g) g p
      | (d1, some f) => if d1.loose f then (d1, false) else ((handOn d1 g "left" r.count).1, true)
def leave (s : Sta) (d : DS) (hand : Str) : DS × Bool := match getN d.hs hand, getN s.paths hand with
  | some r, some p => leaveL (d.setH hand ⟨r.row + 1, 0, .out, none⟩) hand p
  | _, _ => (d, true)
def finish (d : DS) (h : Str) (last : Int) (e : PyData) : DS := match getN d.hs h with
  | some r => (d.setH h ⟨r.row + 1, last, r.how, r.looks⟩).tell e
  | none => d
def goTo (d : DS) (h : Str) (n : Int) : DS := match getN d.hs h with
  | some r => (d.setH h ⟨n, r.last, r.how, r.looks⟩).tell (e3i "went" h n)
  | none => d
def wholeFree (s : Sta) (d : DS) (h : Str) : Bool := match getN s.paths h with
  | some p => (match getN d.gs (p.getLastD h) with
    | some g => g.holder.isNone
    | none => false)
  | none => false
/-- a row done; whether it ties -/
def doAct (s : Sta) (d : DS) (h : Str) (r : HR) : Row → DS × Option Str
  | .take l => if r.how = .within then (finish d h (-1) (e2 "lack" h), none) else (stand s d h l, none)
  | .tri => if r.how = .within then (finish d h (-1) (e2 "lack" h), none) else if wholeFree s d h then (stand s d h none, none) else (finish d h 0 (e2 "no" h), none)
  | .let_ => if r.how = .within then (match letGo s d h with | (d1, ok) => (d1, if ok then none else some "ties")) else (finish d h (-1) (e2 "lack" h), none)
  | .say n => (finish d h 0 (e3i "said" h n), none)
  | .goto n => (goTo d h n, none)
  | .iff a n => (goTo d h (if r.last = a then n else r.row + 1), none)
def doRow (s : Sta) (d : DS) (h : Str) (r : HR) : DS × Option Str := match getN s.progs h with
  | some rows => if r.row = (rows.length : Int) then (d, some "ended") else (match rows[r.row.toNat]? with
    | some row => doAct s d h r row
    | none => (d, some "ended"))
  | none => (d, some "ended")
def doHow (s : Sta) (d : DS) (h : Str) (r : HR) : DS × Option Str := match r.how with
  | .out => doRow s d h r
  | .within => doRow s d h r
  | .loose => ((d.setH h ⟨r.row, r.last, .waits, r.looks⟩).tell (e2 "tied" h), none)
  | .waits => match r.looks with
    | none => (d, some "waits")
    | some l => if l = 0 then (match leave s d h with | (d1, ok) => (d1, if ok then none else some "ties")) else ((d.setH h ⟨r.row, r.last, r.how, some (l - 1)⟩).tell (e2 "looked" h), none)
structure SH where
  hs : List (Str × HR)
  gs : List (Str × GR)
deriving DecidableEq
def draftOf (x : SH) : DS := ⟨x.hs, x.gs, [], []⟩
def drafted (s : Sta) (x : SH) (h : Str) : DS := match getN x.hs h with
  | some r => (match doHow s (draftOf x) h r with
    | (d, none) => d
    | (d, some w) => ⟨x.hs, x.gs, [.tuple [.str "idle", .str h, .str w]], d.firsts⟩)
  | none => draftOf x
def stepP (s : Sta) (x : SH) (h : Str) : SH × List PyData := (⟨(drafted s x h).hs, (drafted s x h).gs⟩, (drafted s x h).told)
end NL
/-! hands and groups in the heap; a draft -/
namespace NL
open PySem L2 Evl
def optI : Option Int → V
  | none => .non
  | some i => .int i
def optS : Option Str → V
  | none => .non
  | some s => .str s
def HV (K : PySem.W.Frag) (H : Hp) (v : V) (r : HR) : Prop := ∃ a, v = .ref a ∧ SqT K H a [.int r.row, .int r.last, .str r.how.str, optI r.looks]
def PlV (K : PySem.W.Frag) (H : Hp) (v : V) (p : Str × Bool) : Prop := ∃ a, v = .ref a ∧ SqT K H a [.str p.1, .bl p.2]
def PlsV (K : PySem.W.Frag) (H : Hp) (v : V) (ps : List (Str × Bool)) : Prop := ∃ a xs, v = .ref a ∧ SqT K H a xs ∧ Paired (PlV K H) xs ps
def GV (K : PySem.W.Frag) (H : Hp) (v : V) (g : GR) : Prop := ∃ a u, v = .ref a ∧ SqT K H a [optS g.holder, .int g.count, u] ∧ PlsV K H u g.places
def EvV (K : PySem.W.Frag) (H : Hp) (v : V) (d : PyData) : Prop := Dy K H v d ∧ tupOnly d = true
def PaV (K : PySem.W.Frag) (H : Hp) (v : V) (p : List Str) : Prop := ∃ a, v = .ref a ∧ SqT K H a (p.map V.str)
def Row.items : Row → List V
  | .take l => [.str "take", optI l]
  | .tri => [.str "try"]
  | .let_ => [.str "let"]
  | .say n => [.str "say", .int n]
  | .goto n => [.str "goto", .int n]
  | .iff a n => [.str "if", .int a, .int n]
def RowV (K : PySem.W.Frag) (H : Hp) (v : V) (r : Row) : Prop := ∃ a, v = .ref a ∧ SqT K H a r.items
def PrV (K : PySem.W.Frag) (H : Hp) (v : V) (rs : List Row) : Prop := ∃ a xs, v = .ref a ∧ SqT K H a xs ∧ Paired (RowV K H) xs rs
def BdV (v : V) (b : Int) : Prop := v = .int b
section
variable {K : PySem.W.Frag} {H H' : Hp} {v : V}
theorem paired_mono {α β : Type} {R S : α → β → Prop} (h : ∀ a b, R a b → S a b) : ∀ {xs : List α} {ys : List β}, Paired R xs ys → Paired S xs ys
  | _, _, .nil => .nil
  | _, _, .cons a t => .cons (h _ _ a) (paired_mono h t)
theorem paired_len {α β : Type} {R : α → β → Prop} : ∀ {xs : List α} {ys : List β}, Paired R xs ys → xs.length = ys.length
  | _, _, .nil => rfl
  | _, _, .cons _ t => by rw [List.length_cons, List.length_cons, paired_len t]
theorem paired_app {α β : Type} {R : α → β → Prop} : ∀ {xs us : List α} {ys vs : List β}, Paired R xs ys → Paired R us vs → Paired R (xs ++ us) (ys ++ vs)
  | _, _, _, _, .nil, h => h
  | _, _, _, _, .cons a t, h => .cons a (paired_app t h)
theorem paired_get {α β : Type} {R : α → β → Prop} : ∀ {xs : List α} {ys : List β} {i : Nat} {x : α}, Paired R xs ys → xs[i]? = some x → ∃ y, ys[i]? = some y ∧ R x y
  | _, _, _, _, .nil, e => by simp at e
  | _, _, 0, _, .cons h _, e => by
    cases Option.some.inj e
    exact ⟨_, rfl, h⟩
  | _, _, i + 1, _, .cons _ t, e => by
    obtain ⟨y, a, b⟩ := paired_get t (by simpa using e)
    exact ⟨y, by simpa using a, b⟩
theorem HV.st {r : HR} (h : HV K H v r) (s : ST K H H') : HV K H' v r := by
  obtain ⟨a, e, t⟩ := h
  exact ⟨a, e, s _ _ t⟩
theorem PlV.st {p : Str × Bool} (h : PlV K H v p) (s : ST K H H') : PlV K H' v p := by
  obtain ⟨a, e, t⟩ := h
  exact ⟨a, e, s _ _ t⟩
theorem PlsV.st {ps : List (Str × Bool)} (h : PlsV K H v ps) (s : ST K H H') : PlsV K H' v ps := by
  obtain ⟨a, xs, e, t, q⟩ := h
  exact ⟨a, xs, e, s _ _ t, paired_mono (fun _ _ z => z.st s) q⟩
theorem GV.st {g : GR} (h : GV K H v g) (s : ST K H H') : GV K H' v g := by
  obtain ⟨a, u, e, t, q⟩ := h
  exact ⟨a, u, e, s _ _ t, q.st s⟩
theorem EvV.st {d : PyData} (h : EvV K H v d) (s : ST K H H') : EvV K H' v d := ⟨dy_st s d v h.2 h.1, h.2⟩
theorem PaV.st {p : List Str} (h : PaV K H v p) (s : ST K H H') : PaV K H' v p := by
  obtain ⟨a, e, t⟩ := h
  exact ⟨a, e, s _ _ t⟩
theorem RowV.st {r : Row} (h : RowV K H v r) (s : ST K H H') : RowV K H' v r := by
  obtain ⟨a, e, t⟩ := h
  exact ⟨a, e, s _ _ t⟩
theorem PrV.st {rs : List Row} (h : PrV K H v rs) (s : ST K H H') : PrV K H' v rs := by
  obtain ⟨a, xs, e, t, q⟩ := h
  exact ⟨a, xs, e, s _ _ t, paired_mono (fun _ _ z => z.st s) q⟩
end
/-! ### dicts by names -/
section
variable {α : Type} {R : V → α → Prop}
def Kr (R : V → α → Prop) (kv : Key × V) (x : Str × α) : Prop := kv.1 = .inr x.1 ∧ R kv.2 x.2
def Dm (R : V → α → Prop) (H : Hp) (d : Addr) (xs : List (Str × α)) : Prop := ∃ kvs, H d = some (.dK kvs) ∧ Paired (Kr R) kvs xs ∧ xs.length ≤ 1000
theorem kr_val (n : Str) : ∀ {kvs : List (Key × V)} {xs : List (Str × α)}, Paired (Kr R) kvs xs → (valV kvs (.inr n) = none ∧ getN xs n = none) ∨ ∃ v x, valV kvs (.inr n) = some v ∧ getN xs n = some x ∧ R v x
  | _, _, .nil => Or.inl ⟨rfl, rfl⟩
  | _, _, .cons (a := kv) (b := x) h t => by
    obtain ⟨n', d⟩ := x
    by_cases e : n' = n
    · exact Or.inr ⟨kv.2, d, valV_pos (h.1.trans (by rw [e])), by simp [getN, e], h.2⟩
    · have ne : ¬ kv.1 = .inr n := fun z => e (by rw [h.1] at z; exact Sum.inr.inj z)
      rw [valV_neg ne]
      have z := kr_val n t
      simp only [getN, if_neg e]
      exact z
theorem kr_any {n : Str} : ∀ {kvs : List (Key × V)} {xs : List (Str × α)}, Paired (Kr R) kvs xs → (getN xs n).isSome = true → (kvs.any fun kv => decide (kv.1 = .inr n)) = true
  | _, _, .nil, h => by cases h
  | _, _, .cons (a := kv) (b := x) h t, hs => by
    obtain ⟨n', d⟩ := x
    by_cases e : n' = n
    · have : kv.1 = .inr n := h.1.trans (by rw [e])
      simp [this]
    · simp only [getN, if_neg e] at hs
      rw [List.any_cons, kr_any t hs, Bool.or_true]
theorem kr_put {n : Str} {v : V} {w : α} (hv : R v w) : ∀ {kvs : List (Key × V)} {xs : List (Str × α)}, Paired (Kr R) kvs xs → Paired (Kr R) (kvs.map fun kv => if kv.1 = .inr n then (kv.1, v) else kv) (setN xs n w)
  | _, _, .nil => .nil
  | _, _, .cons (a := kv) (b := x) h t => by
    obtain ⟨n', d⟩ := x
    refine .cons ?_ (kr_put hv t)
    show Kr R (if kv.1 = .inr n then (kv.1, v) else kv) (n', if n' = n then w else d)
    by_cases e : n' = n
    · have : kv.1 = .inr n := h.1.trans (by rw [e])
      rw [if_pos this, if_pos e]
      exact ⟨h.1, hv⟩
    · have ne : ¬ kv.1 = .inr n := fun z => e (by rw [h.1] at z; exact Sum.inr.inj z)
      rw [if_neg ne, if_neg e]
      exact h
theorem Dm.put {H : Hp} {d : Addr} {xs : List (Str × α)} {n : Str} {x w : α} {v : V} (h : Dm R H d xs) (hn : getN xs n = some x) (hv : R v w) : ∃ H', DPut H d (.str n) v H' ∧ (∀ a, a ≠ d → H' a = H a) ∧ Dm R H' d (setN xs n w) := by
  obtain ⟨kvs, h1, h2, h3⟩ := h
  have any := kr_any (n := n) h2 (by rw [hn]; rfl)
  have len : kvs.length < sizeLine := sz_lt (by rw [paired_len h2]; omega)
  refine ⟨_, DPut.k (k := .inr n) h1 len, fun a ha => upd_ne ha, _, upd_same, ?_, by rw [len_set]; exact h3⟩
  unfold putK
  rw [if_pos any]
  exact kr_put hv h2
theorem Dm.get {H : Hp} {d : Addr} {xs : List (Str × α)} {n : Str} {x : α} (h : Dm R H d xs) (hn : getN xs n = some x) : ∃ v, DGet H d (.str n) (some v) ∧ R v x := by
  obtain ⟨kvs, h1, h2, h3⟩ := h
  rcases kr_val n h2 with ⟨_, b⟩ | ⟨v, y, a, b, r⟩
  · rw [hn] at b
    cases b
  · rw [hn] at b
    cases b
    exact ⟨v, a ▸ DGet.k (k := .inr n) h1, r⟩
theorem Dm.ask {H : Hp} {d : Addr} {xs : List (Str × α)} (n : Str) (h : Dm R H d xs) : ∃ o, DGet H d (.str n) o ∧ o.isSome = (getN xs n).isSome := by
  obtain ⟨kvs, h1, h2, h3⟩ := h
  refine ⟨_, DGet.k (k := .inr n) h1, ?_⟩
  rcases kr_val n h2 with ⟨a, b⟩ | ⟨v, y, a, b, r⟩ <;> rw [a, b] <;> rfl
theorem Dm.st {S : V → α → Prop} {H H' : Hp} {d : Addr} {xs : List (Str × α)} (h : Dm R H d xs) (e : ∀ o, H d = some o → H' d = some o) (s : ∀ v x, R v x → S v x) : Dm S H' d xs := by
  obtain ⟨kvs, h1, h2, h3⟩ := h
  exact ⟨kvs, e _ h1, paired_mono (fun _ _ z => ⟨z.1, s _ _ z.2⟩) h2, h3⟩
theorem Dm.dk {H : Hp} {d : Addr} {xs : List (Str × α)} (h : Dm R H d xs) : ∃ kvs, H d = some (.dK kvs) := ⟨_, h.choose_spec.1⟩
end
/-! ### a draft -/
structure DrA where
  q : Addr
  dx : Addr
  pa : Addr
  bo : Addr
  pr : Addr
  hd : Addr
  gd : Addr
  tl : Addr
  fl : Addr
def DrA.fields (A : DrA) : List (Str × V) := [("paths", .ref A.pa), ("bounds", .ref A.bo), ("programs", .ref A.pr), ("hands", .ref A.hd), ("groups", .ref A.gd), ("told", .ref A.tl), ("firsts", .ref A.fl)]
structure DrAt (K : PySem.W.Frag) (C : Addr) (H : Hp) (A : DrA) (d : DS) : Prop where
  ob : H A.q = some (.ins C A.dx A.fields)
  hs : Dm (HV K H) H A.hd d.hs
  gs : Dm (GV K H) H A.gd d.gs
  tl : ∃ vs, H A.tl = some (.lst vs) ∧ Paired (EvV K H) vs d.told ∧ vs.length ≤ 90000
  fl : H A.fl = some (.lst (d.firsts.map V.str)) ∧ d.firsts.length ≤ 90000
  nd : A.hd ≠ A.gd ∧ A.tl ≠ A.fl
structure StAt (K : PySem.W.Frag) (H : Hp) (A : DrA) (s : Sta) : Prop where
  pa : Dm (PaV K H) H A.pa s.paths
  bo : Dm BdV H A.bo s.bounds
  pr : Dm (PrV K H) H A.pr s.progs
  ne : A.pa ≠ A.hd ∧ A.pa ≠ A.gd ∧ A.bo ≠ A.hd ∧ A.bo ≠ A.gd ∧ A.pr ≠ A.hd ∧ A.pr ≠ A.gd
/-- what isn't the draft's own stays -/
def K4 (A : DrA) (H H' : Hp) : Prop := ∀ a o, a ≠ A.hd → a ≠ A.gd → a ≠ A.tl → a ≠ A.fl → H a = some o → H' a = some o
theorem K4.refl (A : DrA) (H : Hp) : K4 A H H := fun _ _ _ _ _ _ h => h
theorem K4.trans {A : DrA} {H H1 H2 : Hp} (a : K4 A H H1) (b : K4 A H1 H2) : K4 A H H2 := fun x o n1 n2 n3 n4 e => b x o n1 n2 n3 n4 (a x o n1 n2 n3 n4 e)
theorem K4.ex {A : DrA} {H H1 : Hp} (e : Ex H H1) : K4 A H H1 := fun x o _ _ _ _ h => e x o h
section
variable {K : PySem.W.Frag} {C : Addr} {H H' : Hp} {A : DrA} {d : DS} {s : Sta}
theorem DrAt.off (h : DrAt K C H A d) {a : Addr} {o : HO} (e : H a = some o) (n1 : ∀ k, o ≠ .dK k) (n2 : ∀ l, o ≠ .lst l) : a ≠ A.hd ∧ a ≠ A.gd ∧ a ≠ A.tl ∧ a ≠ A.fl := by
  obtain ⟨k1, z1⟩ := h.hs.dk
  obtain ⟨k2, z2⟩ := h.gs.dk
  obtain ⟨vs, z3, _⟩ := h.tl
  have z4 := h.fl.1
  refine ⟨fun z => ?_, fun z => ?_, fun z => ?_, fun z => ?_⟩
  · subst z
    rw [z1] at e
    cases e
    exact n1 _ rfl
  · subst z
    rw [z2] at e
    cases e
    exact n1 _ rfl
  · subst z
    rw [z3] at e
    cases e
    exact n2 _ rfl
  · subst z
    rw [z4] at e
    cases e
    exact n2 _ rfl
theorem DrAt.sT (h : DrAt K C H A d) (k : K4 A H H') : ST K H H' := fun a xs t => by
  rcases t with (z | ⟨ob, z⟩) | z
  · obtain ⟨n1, n2, n3, n4⟩ := h.off z (fun _ y => by cases y) (fun _ y => by cases y)
    exact Or.inl (Or.inl (k _ _ n1 n2 n3 n4 z))
  · obtain ⟨n1, n2, n3, n4⟩ := h.off z (fun _ y => by cases y) (fun _ y => by cases y)
    exact Or.inl (Or.inr ⟨ob, k _ _ n1 n2 n3 n4 z⟩)
  · exact Or.inr z
theorem DrAt.ex (h : DrAt K C H A d) (e : Ex H H') : DrAt K C H' A d := by
  have st : ST K H H' := ST.ex e
  obtain ⟨vs, t1, t2, t3⟩ := h.tl
  exact ⟨e _ _ h.ob, h.hs.st (fun _ z => e _ _ z) fun _ _ z => z.st st, h.gs.st (fun _ z => e _ _ z) fun _ _ z => z.st st, ⟨vs, e _ _ t1, paired_mono (fun _ _ z => z.st st) t2, t3⟩, ⟨e _ _ h.fl.1, h.fl.2⟩, h.nd⟩
theorem StAt.k4 (t : StAt K H A s) (h : DrAt K C H A d) (k : K4 A H H') : StAt K H' A s := by
  have st := h.sT k
  obtain ⟨n1, n2, n3, n4, n5, n6⟩ := t.ne
  obtain ⟨vs, z3, _⟩ := h.tl
  have z4 := h.fl.1
  have go : ∀ {a : Addr} {kvs : List (Key × V)}, a ≠ A.hd → a ≠ A.gd → H a = some (.dK kvs) → ∀ o, H a = some o → H' a = some o := fun {a kvs} m1 m2 e o eo => by
    refine k a o m1 m2 (fun z => ?_) (fun z => ?_) eo
    · subst z
      rw [z3] at e
      cases e
    · subst z
      rw [z4] at e
      cases e
  obtain ⟨k1, y1⟩ := t.pa.dk
  obtain ⟨k2, y2⟩ := t.bo.dk
  obtain ⟨k3, y3⟩ := t.pr.dk
  exact ⟨t.pa.st (go n1 n2 y1) fun _ _ z => z.st st, t.bo.st (go n3 n4 y2) fun _ _ z => z, t.pr.st (go n5 n6 y3) fun _ _ z => z.st st, t.ne⟩
/-- a hand's row is put anew -/
theorem DrAt.putH (h : DrAt K C H A d) {n : Str} {r r' : HR} {v : V} (hn : getN d.hs n = some r) (hv : HV K H v r') : ∃ H', DPut H A.hd (.str n) v H' ∧ K4 A H H' ∧ DrAt K C H' A (d.setH n r') := by
  obtain ⟨H', p, oth, dm⟩ := h.hs.put hn hv
  have k : K4 A H H' := fun a o n1 _ _ _ e => by rw [oth a n1]; exact e
  have st := h.sT k
  obtain ⟨k2, z2⟩ := h.gs.dk
  obtain ⟨vs, t1, t2, t3⟩ := h.tl
  have z4 := h.fl.1
  obtain ⟨k1, z1⟩ := h.hs.dk
  have ne : ∀ {a : Addr} {o : HO}, H a = some o → (∀ k, o ≠ .dK k) → a ≠ A.hd := fun {a o} e m z => by
    subst z
    rw [z1] at e
    cases e
    exact m _ rfl
  refine ⟨H', p, k, ⟨by rw [oth _ (ne h.ob fun _ y => by cases y)]; exact h.ob, dm.st (fun _ z => z) fun _ _ z => z.st st, h.gs.st (fun _ z => by rw [oth _ (Ne.symm h.nd.1)]; exact z) fun _ _ z => z.st st, ⟨vs, by rw [oth _ (ne t1 fun _ y => by cases y)]; exact t1, paired_mono (fun _ _ z => z.st st) t2, t3⟩, ⟨by rw [oth _ (ne z4 fun _ y => by cases y)]; exact z4, h.fl.2⟩, h.nd⟩⟩
theorem DrAt.putG (h : DrAt K C H A d) {n : Str} {g g' : GR} {v : V} (hn : getN d.gs n = some g) (hv : GV K H v g') : ∃ H', DPut H A.gd (.str n) v H' ∧ K4 A H H' ∧ DrAt K C H' A (d.setG n g') := by
  obtain ⟨H', p, oth, dm⟩ := h.gs.put hn hv
  have k : K4 A H H' := fun a o _ n2 _ _ e => by rw [oth a n2]; exact e
  have st := h.sT k
  obtain ⟨vs, t1, t2, t3⟩ := h.tl
  have z4 := h.fl.1
  obtain ⟨k1, z1⟩ := h.gs.dk
  have ne : ∀ {a : Addr} {o : HO}, H a = some o → (∀ k, o ≠ .dK k) → a ≠ A.gd := fun {a o} e m z => by
    subst z
    rw [z1] at e
    cases e
    exact m _ rfl
  refine ⟨H', p, k, ⟨by rw [oth _ (ne h.ob fun _ y => by cases y)]; exact h.ob, h.hs.st (fun _ z => by rw [oth _ h.nd.1]; exact z) fun _ _ z => z.st st, dm.st (fun _ z => z) fun _ _ z => z.st st, ⟨vs, by rw [oth _ (ne t1 fun _ y => by cases y)]; exact t1, paired_mono (fun _ _ z => z.st st) t2, t3⟩, ⟨by rw [oth _ (ne z4 fun _ y => by cases y)]; exact z4, h.fl.2⟩, h.nd⟩⟩
/-- an event is told -/
theorem DrAt.putE (h : DrAt K C H A d) {v : V} {e : PyData} (hv : EvV K H v e) (hl : d.told.length < 90000) : ∃ vs, H A.tl = some (.lst vs) ∧ vs.length < sizeLine ∧ K4 A H (upd H A.tl (.lst (vs ++ [v]))) ∧ DrAt K C (upd H A.tl (.lst (vs ++ [v]))) A (d.tell e) := by
  obtain ⟨vs, t1, t2, t3⟩ := h.tl
  have len := paired_len t2
  have k : K4 A H (upd H A.tl (.lst (vs ++ [v]))) := fun a o _ _ n3 _ e => by rw [upd_ne n3]; exact e
  have st := h.sT k
  have ne : ∀ {a : Addr} {o : HO}, H a = some o → (∀ k, o ≠ .lst k) → a ≠ A.tl := fun {a o} e m z => by
    subst z
    rw [t1] at e
    cases e
    exact m _ rfl
  obtain ⟨k1, z1⟩ := h.hs.dk
  obtain ⟨k2, z2⟩ := h.gs.dk
  refine ⟨vs, t1, sz_lt (by omega), k, ⟨by rw [upd_ne (ne h.ob fun _ y => by cases y)]; exact h.ob, h.hs.st (fun _ z => by rw [upd_ne (ne z1 fun _ y => by cases y)]; exact z) fun _ _ z => z.st st, h.gs.st (fun _ z => by rw [upd_ne (ne z2 fun _ y => by cases y)]; exact z) fun _ _ z => z.st st, ⟨vs ++ [v], upd_same, paired_app (paired_mono (fun _ _ z => z.st st) t2) (.cons (hv.st st) .nil), by rw [List.length_append, List.length_singleton]; omega⟩, ⟨by rw [upd_ne (Ne.symm h.nd.2)]; exact h.fl.1, h.fl.2⟩, h.nd⟩⟩
theorem DrAt.putF (h : DrAt K C H A d) {n : Str} (hl : d.firsts.length < 90000) : K4 A H (upd H A.fl (.lst (d.firsts.map V.str ++ [.str n]))) ∧ DrAt K C (upd H A.fl (.lst (d.firsts.map V.str ++ [.str n]))) A { d with firsts := d.firsts ++ [n] } := by
  obtain ⟨vs, t1, t2, t3⟩ := h.tl
  have z4 := h.fl.1
  have k : K4 A H (upd H A.fl (.lst (d.firsts.map V.str ++ [.str n]))) := fun a o _ _ _ n4 e => by rw [upd_ne n4]; exact e
  have st := h.sT k
  have ne : ∀ {a : Addr} {o : HO}, H a = some o → (∀ k, o ≠ .lst k) → a ≠ A.fl := fun {a o} e m z => by
    subst z
    rw [z4] at e
    cases e
    exact m _ rfl
  obtain ⟨k1, z1⟩ := h.hs.dk
  obtain ⟨k2, z2⟩ := h.gs.dk
  refine ⟨k, ⟨by rw [upd_ne (ne h.ob fun _ y => by cases y)]; exact h.ob, h.hs.st (fun _ z => by rw [upd_ne (ne z1 fun _ y => by cases y)]; exact z) fun _ _ z => z.st st, h.gs.st (fun _ z => by rw [upd_ne (ne z2 fun _ y => by cases y)]; exact z) fun _ _ z => z.st st, ⟨vs, by rw [upd_ne h.nd.2]; exact t1, paired_mono (fun _ _ z => z.st st) t2, t3⟩, ⟨by rw [upd_same]; simp, by rw [List.length_append, List.length_singleton]; omega⟩, h.nd⟩⟩
end
end NL
/-! statements about a draft -/
namespace NL
open PySem L2 Evl
structure DCl (K : PySem.W.Frag) (C : Addr) : Prop where
  cl : Cls K C
  pa : NoAttr K C "paths"
  bo : NoAttr K C "bounds"
  pr : NoAttr K C "programs"
  hd : NoAttr K C "hands"
  gd : NoAttr K C "groups"
  tl : NoAttr K C "told"
  fl : NoAttr K C "firsts"
section
variable {K : PySem.W.Frag} {C : Addr} {A : DrA} {d : DS} {s : Sta} {σ : L2.St} {H : Hp} {D : Ends} {tz : TS} {i j : Nat} {n : Str}
theorem fld_pa : A.fields.lookup ("paths" : Str) = some (V.ref A.pa) := by rfl
theorem fld_bo : A.fields.lookup ("bounds" : Str) = some (V.ref A.bo) := by rfl
theorem fld_pr : A.fields.lookup ("programs" : Str) = some (V.ref A.pr) := by rfl
theorem fld_hd : A.fields.lookup ("hands" : Str) = some (V.ref A.hd) := by rfl
theorem fld_gd : A.fields.lookup ("groups" : Str) = some (V.ref A.gd) := by rfl
theorem fld_tl : A.fields.lookup ("told" : Str) = some (V.ref A.tl) := by rfl
theorem fld_fl : A.fields.lookup ("firsts" : Str) = some (V.ref A.fl) := by rfl
/-- row, last, how, looks = draft.hands[hand] -/
theorem q_getH {k1 k2 k3 k4 : Nat} {r : HR} (dc : DCl K C) (x : DrAt K C H A d) (e1 : σ[i]? = some (some (.ref A.q))) (e2 : σ[j]? = some (some (.str n))) (hn : getN d.hs n = some r)
    (k : tz D ((((σ.set k1 (some (.int r.row))).set k2 (some (.int r.last))).set k3 (some (.str r.how.str))).set k4 (some (optI r.looks))) H) :
    tSeq (tAsg (tDGet (tFld K (tVar i) "hands") (tVar j)) (gTup K 4 (gCons (gName k1) (gCons (gName k2) (gCons (gName k3) (gCons (gName k4) gNil)))))) tz D σ H := by
  obtain ⟨v, g, a, rfl, t⟩ := x.hs.get hn
  exact ⟨_, e1, A.q, C, A.dx, A.fields, _, rfl, x.ob, dc.cl, dc.hd, fld_hd, _, e2, A.hd, _, rfl, g, a, _, rfl, t, rfl, _, _, rfl, _, _, rfl, _, _, rfl, _, _, rfl, rfl, k⟩
/-- holder, count, places = draft.groups[group] -/
theorem q_getG {k1 k2 k3 : Nat} {g : GR} (dc : DCl K C) (x : DrAt K C H A d) (e1 : σ[i]? = some (some (.ref A.q))) (e2 : σ[j]? = some (some (.str n))) (hn : getN d.gs n = some g)
    (k : ∀ u, PlsV K H u g.places → tz D (((σ.set k1 (some (optS g.holder))).set k2 (some (.int g.count))).set k3 (some u)) H) :
    tSeq (tAsg (tDGet (tFld K (tVar i) "groups") (tVar j)) (gTup K 3 (gCons (gName k1) (gCons (gName k2) (gCons (gName k3) gNil))))) tz D σ H := by
  obtain ⟨v, dg, a, u, rfl, t, pl⟩ := x.gs.get hn
  exact ⟨_, e1, A.q, C, A.dx, A.fields, _, rfl, x.ob, dc.cl, dc.gd, fld_gd, _, e2, A.gd, _, rfl, dg, a, _, rfl, t, rfl, _, _, rfl, _, _, rfl, _, _, rfl, rfl, k u pl⟩
/-- draft.hands[hand] = (..) -/
theorem q_putH {tv : TE} {r r' : HR} (dc : DCl K C) (x : DrAt K C H A d) (e1 : σ[i]? = some (some (.ref A.q))) (e2 : σ[j]? = some (some (.str n))) (hn : getN d.hs n = some r)
    (hv : EvU tv σ H [.int r'.row, .int r'.last, .str r'.how.str, optI r'.looks]) (k : ∀ H', DrAt K C H' A (d.setH n r') → K4 A H H' → tz D σ H') : tSeq (sDPut (tFld K (tVar i) "hands") (tVar j) tv) tz D σ H :=
  hv H (Ex.refl H) _ fun p H1 hp e h1 => by
    obtain ⟨H', put, k4, x'⟩ := (x.ex e).putH (r' := r') hn ⟨p, rfl, st_of h1⟩
    exact ⟨_, e1, A.q, C, A.dx, A.fields, _, rfl, (x.ex e).ob, dc.cl, dc.hd, fld_hd, _, e2, A.hd, H', rfl, put, k H' x' ((K4.ex e).trans k4)⟩
theorem s_putH {tv : TE} {r r' : HR} (dc : DCl K C) (x : DrAt K C H A d) (e1 : σ[i]? = some (some (.ref A.q))) (e2 : σ[j]? = some (some (.str n))) (hn : getN d.hs n = some r)
    (hv : EvU tv σ H [.int r'.row, .int r'.last, .str r'.how.str, optI r'.looks]) (k : ∀ H', DrAt K C H' A (d.setH n r') → K4 A H H' → D.nx σ H') : sDPut (tFld K (tVar i) "hands") (tVar j) tv D σ H :=
  hv H (Ex.refl H) _ fun p H1 hp e h1 => by
    obtain ⟨H', put, k4, x'⟩ := (x.ex e).putH (r' := r') hn ⟨p, rfl, st_of h1⟩
    exact ⟨_, e1, A.q, C, A.dx, A.fields, _, rfl, (x.ex e).ob, dc.cl, dc.hd, fld_hd, _, e2, A.hd, H', rfl, put, k H' x' ((K4.ex e).trans k4)⟩
/-- draft.groups[group] = (..) -/
theorem q_putG {tv : TE} {g g' : GR} {u : V} (dc : DCl K C) (x : DrAt K C H A d) (e1 : σ[i]? = some (some (.ref A.q))) (e2 : σ[j]? = some (some (.str n))) (hn : getN d.gs n = some g)
    (hv : EvU tv σ H [optS g'.holder, .int g'.count, u]) (hu : PlsV K H u g'.places) (k : ∀ H', DrAt K C H' A (d.setG n g') → K4 A H H' → tz D σ H') : tSeq (sDPut (tFld K (tVar i) "groups") (tVar j) tv) tz D σ H :=
  hv H (Ex.refl H) _ fun p H1 hp e h1 => by
    obtain ⟨H', put, k4, x'⟩ := (x.ex e).putG (g' := g') hn ⟨p, u, rfl, st_of h1, hu.st (ST.ex e)⟩
    exact ⟨_, e1, A.q, C, A.dx, A.fields, _, rfl, (x.ex e).ob, dc.cl, dc.gd, fld_gd, _, e2, A.gd, H', rfl, put, k H' x' ((K4.ex e).trans k4)⟩
/-- an event: a tuple of texts and numbers -/
def flatE : V → Option PyData
  | .str x => some (.str x)
  | .int i => some (.int i)
  | _ => none
theorem ev_of {vs : List V} {ds : List PyData} {p : Addr} (h : H p = some (.tup vs)) (e : Paired (fun v d => flatE v = some d) vs ds) : EvV K H (.ref p) (.tuple ds) := by
  have all : ∀ {vs : List V} {ds : List PyData}, Paired (fun v d => flatE v = some d) vs ds → DyAll K H vs ds ∧ tupOnlys ds = true := by
    intro vs ds e
    induction e with
    | nil => exact ⟨.nil, rfl⟩
    | cons a t ih =>
      rename_i v d _ _
      cases v <;> cases a
      · exact ⟨.cons (.int _) ih.1, by simp only [tupOnlys, tupOnly, Bool.true_and]; exact ih.2⟩
      · exact ⟨.cons (.str _) ih.1, by simp only [tupOnlys, tupOnly, Bool.true_and]; exact ih.2⟩
  obtain ⟨a, b⟩ := all e
  exact ⟨.tup (st_of h) a, by simp only [tupOnly]; exact b⟩
/-- draft.told.append((..)) -/
theorem q_tell {te : TE} {vs : List V} {ds : List PyData} (dc : DCl K C) (x : DrAt K C H A d) (e1 : σ[i]? = some (some (.ref A.q))) (hv : EvU te σ H vs) (pd : Paired (fun v d => flatE v = some d) vs ds) (hl : d.told.length < 90000)
    (k : ∀ H', DrAt K C H' A (d.tell (.tuple ds)) → K4 A H H' → tz D σ H') : tSeq (tDrop (tBM K "list" rAppend (tFld K (tVar i) "told") (tCons te tNil))) tz D σ H := by
    obtain ⟨vs0, t1, _⟩ := x.tl
    refine ⟨_, e1, A.q, C, A.dx, A.fields, _, rfl, x.ob, dc.cl, dc.tl, fld_tl, Or.inl ⟨rfl, vs0, sq_of t1⟩, hv H (Ex.refl H) _ fun p H1 hp e h1 => ?_⟩
    obtain ⟨vs1, t2, len, k4, x'⟩ := (x.ex e).putE (ev_of h1 pd) hl
    exact ⟨A.tl, vs1, _, rfl, rfl, t2, len, k _ x' ((K4.ex e).trans k4)⟩
theorem s_tell {te : TE} {vs : List V} {ds : List PyData} (dc : DCl K C) (x : DrAt K C H A d) (e1 : σ[i]? = some (some (.ref A.q))) (hv : EvU te σ H vs) (pd : Paired (fun v d => flatE v = some d) vs ds) (hl : d.told.length < 90000)
    (k : ∀ H', DrAt K C H' A (d.tell (.tuple ds)) → K4 A H H' → D.nx σ H') : tDrop (tBM K "list" rAppend (tFld K (tVar i) "told") (tCons te tNil)) D σ H := by
    obtain ⟨vs0, t1, _⟩ := x.tl
    refine ⟨_, e1, A.q, C, A.dx, A.fields, _, rfl, x.ob, dc.cl, dc.tl, fld_tl, Or.inl ⟨rfl, vs0, sq_of t1⟩, hv H (Ex.refl H) _ fun p H1 hp e h1 => ?_⟩
    obtain ⟨vs1, t2, len, k4, x'⟩ := (x.ex e).putE (ev_of h1 pd) hl
    exact ⟨A.tl, vs1, _, rfl, rfl, t2, len, k _ x' ((K4.ex e).trans k4)⟩
/-- draft.told.append(event), event a tuple already -/
theorem s_tellV {v : V} {e : PyData} {l : Nat} (dc : DCl K C) (x : DrAt K C H A d) (e1 : σ[i]? = some (some (.ref A.q))) (e2 : σ[l]? = some (some v)) (hv : EvV K H v e) (hl : d.told.length < 90000)
    (k : ∀ H', DrAt K C H' A (d.tell e) → K4 A H H' → D.nx σ H') : tDrop (tBM K "list" rAppend (tFld K (tVar i) "told") (tCons (tVar l) tNil)) D σ H := by
    obtain ⟨vs0, t1, _⟩ := x.tl
    refine ⟨_, e1, A.q, C, A.dx, A.fields, _, rfl, x.ob, dc.cl, dc.tl, fld_tl, Or.inl ⟨rfl, vs0, sq_of t1⟩, _, e2, ?_⟩
    obtain ⟨vs1, t2, len, k4, x'⟩ := x.putE hv hl
    exact ⟨A.tl, vs1, _, rfl, rfl, t2, len, k _ x' k4⟩
theorem q_first {l : Nat} (dc : DCl K C) (x : DrAt K C H A d) (e1 : σ[i]? = some (some (.ref A.q))) (e2 : σ[l]? = some (some (.str n))) (hl : d.firsts.length < 90000)
    (k : ∀ H', DrAt K C H' A { d with firsts := d.firsts ++ [n] } → K4 A H H' → tz D σ H') : tSeq (tDrop (tBM K "list" rAppend (tFld K (tVar i) "firsts") (tCons (tVar l) tNil))) tz D σ H := by
    obtain ⟨k4, x'⟩ := x.putF (n := n) hl
    exact ⟨_, e1, A.q, C, A.dx, A.fields, _, rfl, x.ob, dc.cl, dc.fl, fld_fl, Or.inl ⟨rfl, _, sq_of x.fl.1⟩, _, e2, A.fl, _, _, rfl, rfl, x.fl.1, sz_lt (by rw [List.length_map]; omega), k _ x' k4⟩
/-- x = draft.paths[m] -/
theorem q_path {m : Nat} {p : List Str} (dc : DCl K C) (x : DrAt K C H A d) (t : StAt K H A s) (e1 : σ[i]? = some (some (.ref A.q))) (e2 : σ[j]? = some (some (.str n))) (hn : getN s.paths n = some p)
    (k : ∀ a, SqT K H a (p.map V.str) → tz D (σ.set m (some (.ref a))) H) : tSeq (tAsg (tDGet (tFld K (tVar i) "paths") (tVar j)) (gName m)) tz D σ H := by
  obtain ⟨v, g, a, rfl, st⟩ := t.pa.get hn
  exact ⟨_, e1, A.q, C, A.dx, A.fields, _, rfl, x.ob, dc.cl, dc.pa, fld_pa, _, e2, A.pa, _, rfl, g, k a st⟩
/-- draft.groups[group] = e, whatever e makes -/
theorem s_putGR {tv : TE} {g g' : GR} (dc : DCl K C) (x : DrAt K C H A d) (e1 : σ[i]? = some (some (.ref A.q))) (e2 : σ[j]? = some (some (.str n))) (hn : getN d.gs n = some g)
    (hv : ∀ Q : VK, (∀ v H1, Ex H H1 → GV K H1 v g' → Q v H1) → tv σ H Q) (k : ∀ H', DrAt K C H' A (d.setG n g') → K4 A H H' → D.nx σ H') : sDPut (tFld K (tVar i) "groups") (tVar j) tv D σ H :=
  hv _ fun v H1 e gv => by
    obtain ⟨H', put, k4, x'⟩ := (x.ex e).putG (g' := g') hn gv
    exact ⟨_, e1, A.q, C, A.dx, A.fields, _, rfl, (x.ex e).ob, dc.cl, dc.gd, fld_gd, _, e2, A.gd, H', rfl, put, k H' x' ((K4.ex e).trans k4)⟩
theorem q_putGR {tv : TE} {g g' : GR} (dc : DCl K C) (x : DrAt K C H A d) (e1 : σ[i]? = some (some (.ref A.q))) (e2 : σ[j]? = some (some (.str n))) (hn : getN d.gs n = some g)
    (hv : ∀ Q : VK, (∀ v H1, Ex H H1 → GV K H1 v g' → Q v H1) → tv σ H Q) (k : ∀ H', DrAt K C H' A (d.setG n g') → K4 A H H' → tz D σ H') : tSeq (sDPut (tFld K (tVar i) "groups") (tVar j) tv) tz D σ H := s_putGR (D := { D with nx := tz D }) dc x e1 e2 hn hv k
theorem ev_inG (dc : DCl K C) (x : DrAt K C H A d) (e1 : σ[i]? = some (some (.ref A.q))) (e2 : σ[j]? = some (some (.str n))) : Ev (tDIn (tVar j) (tFld K (tVar i) "groups")) σ H (.bl (getN d.gs n).isSome) := fun H1 e Q q => by
  obtain ⟨o, g, eo⟩ := (x.ex e).gs.ask n
  exact ⟨_, e2, _, e1, A.q, C, A.dx, A.fields, _, rfl, (x.ex e).ob, dc.cl, dc.gd, fld_gd, A.gd, o, rfl, g, by rw [eo]; exact q H1 (Ex.refl H1)⟩
theorem ev_ninH (dc : DCl K C) (x : DrAt K C H A d) (e1 : σ[i]? = some (some (.ref A.q))) (e2 : σ[j]? = some (some (.str n))) : Ev (tDNotIn (tVar j) (tFld K (tVar i) "hands")) σ H (.bl (!(getN d.hs n).isSome)) := fun H1 e Q q => by
  obtain ⟨o, g, eo⟩ := (x.ex e).hs.ask n
  exact ⟨_, e2, _, e1, A.q, C, A.dx, A.fields, _, rfl, (x.ex e).ob, dc.cl, dc.hd, fld_hd, A.hd, o, rfl, g, by rw [eo]; exact q H1 (Ex.refl H1)⟩
end
theorem q_asgR {te : TE} {tz : TS} {D : Ends} {σ : L2.St} {H : Hp} {i : Nat} (M : V → Hp → Prop) (h : ∀ R : V → Hp → Prop, (∀ v H', M v H' → R v H') → te σ H R) (k : ∀ v H', M v H' → tz D (σ.set i (some v)) H') : tSeq (tAsg te (gName i)) tz D σ H := h (fun v H1 => tz D (σ.set i (some v)) H1) k
/-- for x, y in zip(a, b), both tuples -/
theorem q_forZ {K : PySem.W.Frag} {g : TG} {tb tz : TS} {D : Ends} {σ : L2.St} {H : Hp} {i j : Nat} {a b : Addr} {xs ys : List V} (e1 : σ[i]? = some (some (.ref a))) (e2 : σ[j]? = some (some (.ref b))) (ha : SqT K H a xs) (hb : SqT K H b ys) (hl : xs.length = ys.length) (Pv : Nat → L2.St → Hp → Prop) (h0 : Pv 0 σ H)
    (hq : ∀ i σ H, Pv i σ H → SqT K H a xs ∧ SqT K H b ys) (hs : ∀ (i : Nat) (x y : V) (T : Addr) (σ : L2.St) (H : Hp), xs[i]? = some x → ys[i]? = some y → Pv i σ H → H T = none → g (.ref T) σ (upd H T (.tup [x, y])) fun σ2 H2 => tb { D with nx := Pv (i + 1), ct := Pv (i + 1), bk := tz D } σ2 H2) (hd : ∀ σ H, Pv xs.length σ H → tz D σ H) :
    tSeq (tFor (RZ.iZipA K (tCons (tVar i) (tCons (tVar j) tNil))) g tb) tz D σ H := ⟨_, e1, _, e2, a, b, xs, ys, rfl, Or.inr ⟨ha, hb, RZ.for_zipT (D := { D with nx := tz D }) hl Pv h0 hq hs hd⟩⟩
theorem how_eq (h g : How) : decide (V.str h.str = V.str g.str) = decide (h = g) := by cases h <;> cases g <;> decide +kernel
/-- a lock given down comes to a hand -/
def downOk : Nat → DS → Str → Prop
  | 0, _, _ => False
  | k + 1, d, m => match getN d.gs m with
    | some g => ∃ m', g.holder = some m' ∧ downOk k (d.setG m { g with count := 1 }) m'
    | none => ∃ r, getN d.hs m = some r
theorem tell_len (d : DS) (e : PyData) : (d.tell e).told.length = d.told.length + 1 := by
  unfold DS.tell
  simp
theorem came_len (d : DS) (m : Str) : (came d m).told.length ≤ d.told.length + 1 := by
  unfold came
  split
  · rw [tell_len]
    exact Nat.le_refl _
  · omega
theorem give_len : ∀ (k : Nat) (d : DS) (m : Str), (giveLock k d m).told.length ≤ d.told.length + 1
  | 0, d, m => by simp [giveLock]
  | k + 1, d, m => by
    unfold giveLock
    split
    · exact give_len k _ _
    · exact came_len d m
def standOk (hand : Str) (r : HR) (looks : Option Int) : DS → Str → List Str → Prop
  | d, m, [] => downOk FU d m
  | d, m, g :: p => ∃ gr, getN d.gs g = some gr ∧ gr.places.length ≤ 5000 ∧ (gr.holder = none → standOk hand r looks ((d.setG g { gr with holder := some m }).tell (e3 "held" m g)) g p)
theorem pass_facts {d : DS} {n : Str} {g : GR} (hn : getN d.gs n = some g) : (passLeft d n).1.hs = d.hs ∧ (passLeft d n).1.told.length ≤ d.told.length + g.places.length ∧ (passLeft d n).1.firsts.length ≤ d.firsts.length + 1 ∧
    (∃ g1, getN (passLeft d n).1.gs n = some g1 ∧ g1.holder = g.holder ∧ g1.count = g.count ∧ g1.places = g.places.dropWhile (fun p => !p.2) ∧ ∀ m, (passLeft d n).2 = some m → ∃ b rest, g1.places = (m, b) :: rest) ∧ ∀ k, k ≠ n → getN (passLeft d n).1.gs k = getN d.gs k := by
  have tl : (g.places.takeWhile fun p => !p.2).length ≤ g.places.length := (List.takeWhile_prefix _).length_le
  unfold passLeft
  rw [hn]
  dsimp only
  generalize hr : g.places.dropWhile (fun p => !p.2) = rest
  cases rest with
  | nil =>
    refine ⟨rfl, ?_, by simp, ⟨_, getN_same hn, rfl, rfl, rfl, fun m z => by cases z⟩, fun k hk => getN_other hk⟩
    show (d.told ++ _).length ≤ _
    rw [List.length_append, List.length_map]
    omega
  | cons p rest =>
    refine ⟨rfl, ?_, by simp, ⟨_, getN_same hn, rfl, rfl, rfl, fun m z => ⟨p.2, rest, by cases z; rfl⟩⟩, fun k hk => getN_other hk⟩
    show (d.told ++ _).length ≤ _
    rw [List.length_append, List.length_map]
    omega
def letOk (s : Sta) : DS → List Str → Prop
  | _, [] => True
  | d, g :: p => ∃ gr b, getN d.gs g = some gr ∧ getN s.bounds g = some b ∧ gr.places.length ≤ 5000 ∧ d.told.length ≤ 60000 ∧ d.firsts.length ≤ 4000 ∧ (match passLeft d g with
    | (d1, none) => letOk s (makeBare d1 g) p
    | (d1, some m) => d1.loose m = false → (if p.isEmpty || isBelow s d1 g then ∀ c, downOk FU (handOn d1 g "near" c).1 m else g ≠ p.headD g ∧ (∃ g2, getN d1.gs (p.headD g) = some g2 ∧ g2.places.length ≤ 5000) ∧ letOk s (handOver d1 g (p.headD g)) p))
def leaveOk (s : Sta) : DS → Str → List Str → Prop
  | _, _, [] => False
  | d, m, g :: p => getN s.paths m = some (g :: p) ∧ ∃ gr, getN d.gs g = some gr ∧ gr.places.length ≤ 5000 ∧ d.told.length ≤ 60000 ∧ d.firsts.length ≤ 4000 ∧ (gr.holder = some m → (match passLeft (d.tell (e2 "left" m)) g with
    | (d1, none) => leaveOk s (makeBare d1 g) g p
    | (_, some _) => True))
def sOk (s : Sta) (d : DS) (h : Str) (r : HR) (l : Option Int) : Prop := ∃ p, getN s.paths h = some p ∧ p.length ≤ 100 ∧ standOk h r l (d.setH h ⟨r.row, r.last, .waits, l⟩) h p
def lOk (s : Sta) (d : DS) (h : Str) (r : HR) : Prop := ∃ p, getN s.paths h = some p ∧ p ≠ [] ∧ p.length ≤ 100 ∧ letOk s ((d.setH h ⟨r.row + 1, 0, .out, none⟩).tell (e2 "let" h)) p
def actOk (s : Sta) (d : DS) (h : Str) (r : HR) : Row → Prop
  | .take l => r.how ≠ .within → sOk s d h r l
  | .tri => (∃ p g, getN s.paths h = some p ∧ p ≠ [] ∧ getN d.gs (p.getLastD h) = some g) ∧ (r.how ≠ .within → wholeFree s d h = true → sOk s d h r none)
  | .let_ => r.how = .within → lOk s d h r
  | _ => True
def rowOk (s : Sta) (d : DS) (h : Str) (r : HR) : Prop := ∃ rows, getN s.progs h = some rows ∧ 0 ≤ r.row ∧ r.row ≤ (rows.length : Int) ∧ rows.length ≤ 5000 ∧ ∀ row, rows[r.row.toNat]? = some row → actOk s d h r row
def vOk (s : Sta) (d : DS) (h : Str) (r : HR) : Prop := ∃ p, getN s.paths h = some p ∧ p.length ≤ 12 ∧ leaveOk s (d.setH h ⟨r.row + 1, 0, .out, none⟩) h p
def howOk (s : Sta) (d : DS) (h : Str) (r : HR) : Prop := match r.how with
  | .out => rowOk s d h r
  | .within => rowOk s d h r
  | .loose => True
  | .waits => r.looks = some 0 → vOk s d h r
end NL
/-! a house in the heap -/
namespace NL
open PySem L2 Evl
structure HoA where
  p : Addr
  dx : Addr
  pa : Addr
  bo : Addr
  pr : Addr
  hd : Addr
  gd : Addr
  pv : V
  bv : V
def HoA.fields (B : HoA) : List (Str × V) := [("plan", B.pv), ("book", B.bv), ("paths", .ref B.pa), ("bounds", .ref B.bo), ("programs", .ref B.pr), ("hands", .ref B.hd), ("groups", .ref B.gd)]
structure HoAt (K : PySem.W.Frag) (C : Addr) (H : Hp) (B : HoA) (s : Sta) (x : SH) : Prop where
  ob : H B.p = some (.ins C B.dx B.fields)
  pa : Dm (PaV K H) H B.pa s.paths
  bo : Dm BdV H B.bo s.bounds
  pr : Dm (PrV K H) H B.pr s.progs
  hs : Dm (HV K H) H B.hd x.hs
  gs : Dm (GV K H) H B.gd x.gs
section
variable {K : PySem.W.Frag} {C : Addr} {H H' : Hp} {B : HoA} {s : Sta} {x : SH}
theorem hf_pa : B.fields.lookup ("paths" : Str) = some (V.ref B.pa) := by rfl
theorem hf_bo : B.fields.lookup ("bounds" : Str) = some (V.ref B.bo) := by rfl
theorem hf_pr : B.fields.lookup ("programs" : Str) = some (V.ref B.pr) := by rfl
theorem hf_hd : B.fields.lookup ("hands" : Str) = some (V.ref B.hd) := by rfl
theorem hf_gd : B.fields.lookup ("groups" : Str) = some (V.ref B.gd) := by rfl
theorem hf_pv : B.fields.lookup ("plan" : Str) = some B.pv := by rfl
theorem hf_bv : B.fields.lookup ("book" : Str) = some B.bv := by rfl
/-- all but the house's own place stays -/
theorem st_ins {p dx : Addr} {fs : List (Str × V)} (h : H p = some (.ins C dx fs)) (k : Kp p p H H') : ST K H H' := fun a xs t => by
  have no : ∀ {u : HO}, H a = some u → (∀ C' dx' fs', u ≠ .ins C' dx' fs') → H' a = some u := fun {u} z n => by
    have : a ≠ p := fun y => by
      subst y
      rw [h] at z
      cases z
      exact n _ _ _ rfl
    exact k _ _ this this z
  rcases t with (z | ⟨ob, z⟩) | z
  · exact Or.inl (Or.inl (no z fun _ _ _ y => by cases y))
  · exact Or.inl (Or.inr ⟨ob, no z fun _ _ _ y => by cases y⟩)
  · exact Or.inr z
theorem HoAt.ex (h : HoAt K C H B s x) (e : Ex H H') : HoAt K C H' B s x := by
  have st : ST K H H' := ST.ex e
  exact ⟨e _ _ h.ob, h.pa.st (fun _ z => e _ _ z) fun _ _ z => z.st st, h.bo.st (fun _ z => e _ _ z) fun _ _ z => z, h.pr.st (fun _ z => e _ _ z) fun _ _ z => z.st st, h.hs.st (fun _ z => e _ _ z) fun _ _ z => z.st st, h.gs.st (fun _ z => e _ _ z) fun _ _ z => z.st st⟩
theorem Dm.ne {α : Type} {R : V → α → Prop} {d p dx : Addr} {xs : List (Str × α)} {fs : List (Str × V)} (h : Dm R H d xs) (hp : H p = some (.ins C dx fs)) : d ≠ p := fun z => by
  obtain ⟨kvs, e⟩ := h.dk
  rw [z, hp] at e
  cases e
/-- another object changes -/
theorem HoAt.kp (h : HoAt K C H B s x) {q Cq dq : Addr} {fq : List (Str × V)} (hq : H q = some (.ins Cq dq fq)) (ne : B.p ≠ q) (k : Kp q q H H') : HoAt K C H' B s x := by
  have st : ST K H H' := st_ins hq k
  have go : ∀ {a : Addr}, a ≠ q → ∀ o, H a = some o → H' a = some o := fun n o z => k _ _ n n z
  exact ⟨go ne _ h.ob, h.pa.st (go (h.pa.ne hq)) fun _ _ z => z.st st, h.bo.st (go (h.bo.ne hq)) fun _ _ z => z, h.pr.st (go (h.pr.ne hq)) fun _ _ z => z.st st, h.hs.st (go (h.hs.ne hq)) fun _ _ z => z.st st, h.gs.st (go (h.gs.ne hq)) fun _ _ z => z.st st⟩
end
theorem Kp.ins {H H' : Hp} {p : Addr} {o : HO} (k : Kp p p H H') : Kp p p H (upd H' p o) := Kp.put k (Or.inl rfl)
def EvsV (K : PySem.W.Frag) (H : Hp) (v : V) (es : List PyData) : Prop := ∃ t vs, v = .ref t ∧ H t = some (.tup vs) ∧ Paired (EvV K H) vs es
def HoA.same (B B' : HoA) : Prop := B'.p = B.p ∧ B'.dx = B.dx ∧ B'.pa = B.pa ∧ B'.bo = B.bo ∧ B'.pr = B.pr ∧ B'.pv = B.pv ∧ B'.bv = B.bv
end NL
/-! fields, dicts walked and made -/
namespace NL
open PySem L2 Evl
theorem pe_fldK {X : Cx} {K : PySem.W.Frag} (hK : X.K = K) {e : Expr} {ta : TE} {f : Str} {pos : Pos} (he : PE X e ta) (hb : attributeBase e f X.env (eval e X.env) = eval e X.env) : PE X (.Attribute e f pos) (tFld K ta f) := by
  subst hK
  exact pe_fld he hb
theorem nosl {i : Expr} (h : ∀ ov iv, subscripted i false ov iv = operate [ov, iv] (getItem ov iv)) : NoSl i := h
theorem ST.dk {K : PySem.W.Frag} {H : Hp} {p : Addr} {ys : List (Key × V)} {o : HO} (h : H p = some (.dK ys)) : ST K H (upd H p o) := fun a xs s => by
  have no : ∀ {u : HO}, H a = some u → (∀ zs, u ≠ .dK zs) → upd H p o a = some u := fun {u} z n => by
    rw [upd_ne (fun y => by subst y; rw [h] at z; cases z; exact n _ rfl)]
    exact z
  rcases s with (z | ⟨ob, z⟩) | z
  · exact Or.inl (Or.inl (no z fun _ y => by cases y))
  · exact Or.inl (Or.inr ⟨ob, no z fun _ y => by cases y⟩)
  · exact Or.inr z
theorem find_take {α : Type} (f : α → Bool) : ∀ (xs : List α) (i : Nat) (x : α), xs[i]? = some x → f x = true → (∀ j y, j < i → xs[j]? = some y → f y = false) → xs.find? f = some x
  | [], i, x, h, _, _ => by simp at h
  | y :: ys, 0, x, h, hx, _ => by
    cases Option.some.inj h
    rw [List.find?_cons, hx]
  | y :: ys, i + 1, x, h, hx, hn => by
    rw [List.find?_cons, hn 0 y (Nat.succ_pos i) rfl]
    exact find_take f ys i x (by simpa using h) hx fun j z hj hz => hn (j + 1) z (Nat.succ_lt_succ hj) (by simpa using hz)
theorem find_no {α : Type} (f : α → Bool) : ∀ (xs : List α), (∀ j y, j < xs.length → xs[j]? = some y → f y = false) → xs.find? f = none
  | [], _ => rfl
  | y :: ys, hn => by
    rw [List.find?_cons, hn 0 y (Nat.succ_pos _) rfl]
    exact find_no f ys fun j z hj hz => hn (j + 1) z (Nat.succ_lt_succ hj) (by simpa using hz)
theorem dc_it {J : It} {n : Nat} {G : Hp → Prop} {Y : Nat → Hp → V → Hp → Prop} (wk : Walk J n G Y) {g : TG} {tt : TT} {tk tv : TE} {vs : List Nat} {σ : L2.St} {H1 : Hp} {D : Addr} {Qd : Hp → Prop} (Pv : Nat → Hp → Prop) (h0 : Pv 0 (upd H1 D (.dK []))) (hG : ∀ i H, i ≤ n → Pv i H → G H)
    (hs : ∀ i x H H', i < n → Pv i H → Y i H x H' → g x (wipe σ vs) H' fun σ2 H2 => wipe σ2 vs = wipe σ vs ∧ tt σ2 H2 fun b H3 =>
      if b = true then tk σ2 H3 fun y H4 => tv σ2 H4 fun z H5 => ∃ kvs k, y = kV k ∧ H5 D = some (.dK kvs) ∧ kvs.length < sizeLine ∧ Pv (i + 1) (upd H5 D (.dK (putK kvs k z))) else Pv (i + 1) H3) (hd : ∀ H, Pv n H → Qd H) :
    ∃ W : Nat → Nat → Hp → Prop, (∃ m, W 0 m (upd H1 D (.dK []))) ∧ ∀ i m H, W i m H →
      (J.stop i H ∧ Qd H) ∨ (J.go i H ∧ ∃ Nx : Hp → Prop, (∀ H', Nx H' → ∃ m', m' < m ∧ W (i + 1) m' H') ∧ ∀ x H', J.yld i H x H' → g x (wipe σ vs) H' fun σ2 H2 => wipe σ2 vs = wipe σ vs ∧ tt σ2 H2 fun b H3 =>
        if b = true then tk σ2 H3 fun y H4 => tv σ2 H4 fun z H5 => ∃ kvs k, y = kV k ∧ H5 D = some (.dK kvs) ∧ kvs.length < sizeLine ∧ Nx (upd H5 D (.dK (putK kvs k z))) else Nx H3) := by
  refine ⟨fun i m H => i + m = n ∧ Pv i H, ⟨n, Nat.zero_add n, h0⟩, fun i m H hw => ?_⟩
  obtain ⟨hm, pv⟩ := hw
  have hi : i ≤ n := by omega
  have hg := hG i H hi pv
  rcases Nat.lt_or_ge i n with lt | ge
  · exact Or.inr ⟨wk.goes i H lt hg, Pv (i + 1), fun H' p' => ⟨m - 1, by omega, by omega, p'⟩, fun x H' y => hs i x H H' lt pv (wk.yields i H x H' lt hg y)⟩
  · obtain rfl : i = n := by omega
    exact Or.inl ⟨wk.stops H hg, hd H pv⟩
theorem q_fld {K : PySem.W.Frag} {ta tv : TE} {f : Str} {tz : TS} {D : Ends} {σ : L2.St} {H : Hp} (h : tv σ H fun y H1 => ta σ H1 fun x H2 => ∃ a C dx fs, x = .ref a ∧ H2 a = some (.ins C dx fs) ∧ Cls K C ∧ NoAttr K C f ∧ fs.length < 1000 ∧ tz D σ (upd H2 a (.ins C dx (putF f y fs)))) : tSeq (sFld K ta tv f) tz D σ H := h
theorem s_fld {K : PySem.W.Frag} {ta tv : TE} {f : Str} {D : Ends} {σ : L2.St} {H : Hp} (h : tv σ H fun y H1 => ta σ H1 fun x H2 => ∃ a C dx fs, x = .ref a ∧ H2 a = some (.ins C dx fs) ∧ Cls K C ∧ NoAttr K C f ∧ fs.length < 1000 ∧ D.nx σ (upd H2 a (.ins C dx (putF f y fs)))) : sFld K ta tv f D σ H := h
theorem tk_kp {H H' : Hp} {p C dx : Addr} {fs : List (Str × V)} (h : H p = some (.ins C dx fs)) (k : Kp p p H H') : TK H H' := fun a xs z => by
  have : a ≠ p := fun y => by
    subst y
    rw [h] at z
    cases z
  exact k _ _ this this z
theorem kp_upd {H H' : Hp} {p : Addr} {o : HO} (k : Kp p p H H') : Kp p p H (upd H' p o) := fun c u n1 n2 z => by
  rw [upd_ne n1]
  exact k c u n1 n2 z
theorem paired_st {K : PySem.W.Frag} {H H' : Hp} (s : ST K H H') : ∀ {ps : List Addr} {kvs : List (Key × V)}, Paired (fun p kv => SqT K H p [kV kv.1, kv.2]) ps kvs → Paired (fun p kv => SqT K H' p [kV kv.1, kv.2]) ps kvs
  | _, _, .nil => .nil
  | _, _, .cons h t => .cons (s _ _ h) (paired_st s t)
/-! ### a house asked -/
theorem kr_at {α : Type} {R : V → α → Prop} : ∀ {kvs : List (Key × V)} {xs : List (Str × α)} {i : Nat} {n : Str} {v : V}, Paired (Kr R) kvs xs → (xs.map (·.1)).Nodup → kvs[i]? = some (.inr n, v) → valV kvs (.inr n) = some v
  | _, _, _, _, _, .nil, _, e => by simp at e
  | _, _, 0, _, _, .cons h _, _, e => by
    simp at e
    subst e
    exact valV_pos rfl
  | _, _, i + 1, n, v, .cons (a := kv) (b := x) h t, nd, e => by
    rw [List.map_cons, List.nodup_cons] at nd
    have e' : _ := (by simpa using e : _)
    obtain ⟨y, hy, z⟩ := NL.paired_get t e'
    have ne : ¬ kv.1 = .inr n := fun q => nd.1 (by
      rw [h.1] at q
      have : x.1 = y.1 := (Sum.inr.inj q).trans (Sum.inr.inj z.1)
      rw [this]
      exact List.mem_map_of_mem (List.mem_of_getElem? hy))
    rw [valV_neg ne]
    exact kr_at t nd.2 e'
def inNow (xs : List (Str × HR)) : Option Str := (xs.find? fun x => decide (x.2.how = .within)).map (·.1)
theorem kr_none {α : Type} {R : V → α → Prop} {n : Str} : ∀ {kvs : List (Key × V)} {xs : List (Str × α)}, Paired (Kr R) kvs xs → n ∉ xs.map (·.1) → valV kvs (.inr n) = none
  | _, _, .nil, _ => rfl
  | _, _, .cons (a := kv) (b := x) h t, hn => by
    rw [List.map_cons, List.mem_cons, not_or] at hn
    rw [valV_neg fun z => hn.1 (by rw [h.1] at z; exact (Sum.inr.inj z).symm)]
    exact kr_none t hn.2
theorem kr_new {α : Type} {R : V → α → Prop} {n : Str} {v : V} {d : α} {kvs : List (Key × V)} {xs : List (Str × α)} (h : Paired (Kr R) kvs xs) (hn : n ∉ xs.map (·.1)) (t : R v d) : Paired (Kr R) (putK kvs (.inr n) v) (xs ++ [(n, d)]) := by
  rw [putK_new _ (kr_none h hn)]
  exact paired_app h (.cons ⟨rfl, t⟩ .nil)
/-- a merge of unlike keys is their row -/
theorem merge_new {α : Type} {R : V → α → Prop} : ∀ {kvs acc : List (Key × V)} {xs ys : List (Str × α)}, Paired (Kr R) acc ys → Paired (Kr R) kvs xs → ((ys ++ xs).map (·.1)).Nodup → Paired (Kr R) (mergeK acc kvs) (ys ++ xs)
  | [], acc, xs, ys, ha, hk, nd => by
    cases hk
    rw [List.append_nil]
    exact ha
  | (k, v) :: kvs, acc, xs, ys, ha, hk, nd => by
    cases hk with
    | @cons _ x _ xs' h t =>
      obtain ⟨n, d⟩ := x
      have hk1 : k = .inr n := h.1
      subst hk1
      have hn : n ∉ ys.map (·.1) := fun z => by
        rw [List.map_append, List.nodup_append] at nd
        exact nd.2.2 n z n (by simp) rfl
      have step := kr_new ha hn h.2
      have e : ys ++ (n, d) :: xs' = (ys ++ [(n, d)]) ++ xs' := by simp
      rw [e] at nd ⊢
      exact merge_new (acc := putK acc (.inr n) v) step t nd
end NL
/-! each one in one place: hands and groups by their names, as functions -/
namespace NL
open PySem L2 Evl
abbrev HF := Str → Option How
abbrev GF := Str → Option (Option Str × List (Str × Bool))
def setF {α : Type} (f : Str → Option α) (n : Str) (v : α) : Str → Option α := fun m => if m = n then some v else f m
theorem setF_same {α : Type} {f : Str → Option α} {n : Str} {v : α} : setF f n v n = some v := if_pos rfl
theorem setF_ne {α : Type} {f : Str → Option α} {n m : Str} {v : α} (h : m ≠ n) : setF f n v m = f m := if_neg h
theorem setF_id {α : Type} {f : Str → Option α} {n : Str} {v : α} (h : f n = some v) : setF f n v = f := by
  funext m
  by_cases e : m = n
  · rw [e, setF_same, h]
  · rw [setF_ne e]
def up (s : Sta) (m : Str) : Option Str := match getN s.paths m with
  | some (g :: _) => some g
  | _ => none
def act (h : HF) (k : GF) (m : Str) : Prop := (∃ x, h m = some x ∧ x ≠ .out) ∨ ∃ o ps, k m = some (some o, ps)
structure JE (s : Sta) (h : HF) (k : GF) (e : Option Str) : Prop where
  dj : ∀ m x, h m = some x → k m = none
  ac : ∀ m g, up s m = some g → m ≠ g
  hold : ∀ g ps m, k g = some (some m, ps) → up s m = some g ∧ (e ≠ some m → act h k m ∧ h m ≠ some .loose)
  plc : ∀ g o ps m, k g = some (o, ps) → (m, true) ∈ ps → up s m = some g ∧ h m ≠ some .within ∧ (e ≠ some m → act h k m ∧ o ≠ some m)
  one : ∀ g o ps, k g = some (o, ps) → ((ps.filter (·.2)).map (·.1)).Nodup
  bare : ∀ g ps, k g = some (none, ps) → ps = []
  has : ∀ m g o ps, up s m = some g → act h k m → e ≠ some m → k g = some (o, ps) → o = some m ∨ (m, true) ∈ ps
/-- nowhere in the row around it -/
def NoR (s : Sta) (k : GF) (m : Str) : Prop := ∀ g o ps, up s m = some g → k g = some (o, ps) → o ≠ some m ∧ (m, true) ∉ ps
section
variable {s : Sta} {h : HF} {k : GF} {e : Option Str} {m g : Str} {o : Option Str} {ps : List (Str × Bool)}
theorem act_h {n : Str} {y : How} (ne : m ≠ n) : act (setF h n y) k m ↔ act h k m := by unfold act; rw [setF_ne ne]
theorem act_g {n : Str} {v : Option Str × List (Str × Bool)} (ne : m ≠ n) : act h (setF k n v) m ↔ act h k m := by unfold act; rw [setF_ne ne]
theorem act_gs {v : Option Str × List (Str × Bool)} (hn : h g = none) : act h (setF k g v) g ↔ v.1 ≠ none := by
  unfold act
  rw [setF_same, hn]
  obtain ⟨o, ps⟩ := v
  constructor
  · rintro (⟨x, z, _⟩ | ⟨o', ps', z⟩)
    · cases z
    · cases z
      simp
  · intro z
    cases o with
    | none => exact absurd rfl z
    | some o => exact Or.inr ⟨o, ps, rfl⟩
theorem act_hs {y : How} (hn : k m = none) : act (setF h m y) k m ↔ y ≠ .out := by
  unfold act
  rw [setF_same, hn]
  constructor
  · rintro (⟨x, z, q⟩ | ⟨o', ps', z⟩)
    · cases z
      exact q
    · cases z
  · intro z
    exact Or.inl ⟨y, rfl, z⟩
theorem JE.gh (j : JE s h k e) (hg : k g = some (o, ps)) : h g = none := by
  cases z : h g with
  | none => rfl
  | some x =>
    rw [j.dj g x z] at hg
    cases hg
/-- a hand's how changes, it stays among those that stand or hold -/
theorem JE.how (j : JE s h k none) {x y : How} (hm : h m = some x) (hx : x ≠ .out) (hy : y ≠ .out) (h1 : y = .loose → ∀ g ps, k g ≠ some (some m, ps)) (h2 : y = .within → ∀ g o ps, k g = some (o, ps) → (m, true) ∉ ps) : JE s (setF h m y) k none := by
  have km := j.dj m x hm
  have am : act h k m := Or.inl ⟨x, hm, hx⟩
  have ac : ∀ n, act (setF h m y) k n ↔ act h k n := fun n => by
    by_cases z : n = m
    · subst z
      rw [act_hs km]
      exact ⟨fun _ => am, fun _ => hy⟩
    · exact act_h z
  refine ⟨fun n z hz => ?_, j.ac, fun g ps n hg => ?_, fun g o ps n hg hp => ?_, j.one, j.bare, fun n g o ps hu ha hn hg => j.has n g o ps hu ((ac n).mp ha) hn hg⟩
  · by_cases q : n = m
    · subst q
      exact km
    · rw [setF_ne q] at hz
      exact j.dj n z hz
  · obtain ⟨a, b⟩ := j.hold g ps n hg
    refine ⟨a, fun hn => ⟨(ac n).mpr (b hn).1, ?_⟩⟩
    by_cases q : n = m
    · subst q
      rw [setF_same]
      intro z
      exact h1 (Option.some.inj z) g ps hg
    · rw [setF_ne q]
      exact (b hn).2
  · obtain ⟨a, b, c⟩ := j.plc g o ps n hg hp
    refine ⟨a, ?_, fun hn => ⟨(ac n).mpr (c hn).1, (c hn).2⟩⟩
    by_cases q : n = m
    · subst q
      rw [setF_same]
      intro z
      exact h2 (Option.some.inj z) g o ps hg hp
    · rw [setF_ne q]
      exact b
/-- one that was out waits: it has no place as yet -/
theorem JE.begins (j : JE s h k none) (hm : h m = some .out) : JE s (setF h m .waits) k (some m) ∧ NoR s k m := by
  have km := j.dj m _ hm
  have na : ¬ act h k m := by
    rintro (⟨x, z, q⟩ | ⟨o, ps, z⟩)
    · rw [hm] at z
      cases z
      exact q rfl
    · rw [km] at z
      cases z
  refine ⟨⟨fun n z hz => ?_, j.ac, fun g ps n hg => ?_, fun g o ps n hg hp => ?_, j.one, j.bare, fun n g o ps hu ha hn hg => ?_⟩, fun g o ps hu hg => ?_⟩
  · by_cases q : n = m
    · subst q
      exact km
    · rw [setF_ne q] at hz
      exact j.dj n z hz
  · obtain ⟨a, b⟩ := j.hold g ps n hg
    refine ⟨a, fun hn => ?_⟩
    have q : n ≠ m := fun z => hn (by rw [z])
    rw [act_h q, setF_ne q]
    exact b (by simp)
  · obtain ⟨a, b, c⟩ := j.plc g o ps n hg hp
    have q : n ≠ m := fun z => by
      subst z
      exact na (c (by simp)).1
    rw [setF_ne q]
    refine ⟨a, b, fun hn => ?_⟩
    rw [act_h q]
    exact c (by simp)
  · have q : n ≠ m := fun z => hn (by rw [z])
    exact j.has n g o ps hu ((act_h q).mp ha) (by simp) hg
  · refine ⟨fun z => ?_, fun z => ?_⟩
    · subst z
      exact na ((j.hold g ps m hg).2 (by simp)).1
    · exact na ((j.plc g o ps m hg z).2.2 (by simp)).1
/-- it holds a bare group, which has no place as yet -/
theorem JE.holds (j : JE s h k (some m)) (am : act h k m) (hu : up s m = some g) (hg : k g = some (none, ps)) (hl : h m ≠ some .loose) : JE s h (setF k g (some m, ps)) (some g) ∧ NoR s (setF k g (some m, ps)) g ∧ act h (setF k g (some m, ps)) g := by
  have ne := j.ac m g hu
  have hgn := j.gh hg
  have p0 := j.bare g ps hg
  subst p0
  have nag : ¬ act h k g := by
    rintro (⟨x, z, q⟩ | ⟨o, ps, z⟩)
    · rw [hgn] at z
      cases z
    · rw [hg] at z
      cases z
  have acs : ∀ n, n ≠ g → (act h (setF k g (some m, [])) n ↔ act h k n) := fun n q => act_g q
  have rec0 : NoR s k g := fun a o ps hu' ha => by
    refine ⟨fun z => ?_, fun z => ?_⟩
    · subst z
      exact nag ((j.hold a ps g ha).2 (fun y => ne (Option.some.inj y))).1
    · exact nag ((j.plc a o ps g ha z).2.2 (fun y => ne (Option.some.inj y))).1
  refine ⟨⟨fun n z hz => ?_, j.ac, fun a ps n ha => ?_, fun a o ps n ha hp => ?_, fun a o ps ha => ?_, fun a ps ha => ?_, fun n a o ps hu' hac hn ha => ?_⟩, fun a o ps hu' ha => ?_, (act_gs hgn).mpr (by simp)⟩
  · have q : n ≠ g := fun y => by rw [y, hgn] at hz; cases hz
    rw [setF_ne q]
    exact j.dj n z hz
  · by_cases q : a = g
    · subst q
      rw [setF_same] at ha
      cases ha
      exact ⟨hu, fun _ => ⟨(acs _ ne).mpr am, hl⟩⟩
    · rw [setF_ne q] at ha
      obtain ⟨u1, u2⟩ := j.hold a ps n ha
      refine ⟨u1, fun hn => ?_⟩
      have q2 : n ≠ g := fun y => hn (by rw [y])
      have q3 : some m ≠ some n := fun y => q (by
        cases y
        rw [hu] at u1
        exact (Option.some.inj u1).symm)
      rw [acs n q2]
      exact u2 q3
  · by_cases q : a = g
    · subst q
      rw [setF_same] at ha
      cases ha
      cases hp
    · rw [setF_ne q] at ha
      obtain ⟨u1, u2, u3⟩ := j.plc a o ps n ha hp
      refine ⟨u1, u2, fun hn => ?_⟩
      have q2 : n ≠ g := fun y => hn (by rw [y])
      have q3 : some m ≠ some n := fun y => q (by
        cases y
        rw [hu] at u1
        exact (Option.some.inj u1).symm)
      rw [acs n q2]
      exact u3 q3
  · by_cases q : a = g
    · subst q
      rw [setF_same] at ha
      cases ha
      simp
    · rw [setF_ne q] at ha
      exact j.one a o ps ha
  · by_cases q : a = g
    · subst q
      rw [setF_same] at ha
      cases ha
    · rw [setF_ne q] at ha
      exact j.bare a ps ha
  · have q2 : n ≠ g := fun y => hn (by rw [y])
    by_cases q : a = g
    · subst q
      rw [setF_same] at ha
      cases ha
      by_cases q3 : n = m
      · left
        rw [q3]
      · have := j.has n a _ _ hu' ((acs n q2).mp hac) (fun y => q3 (Option.some.inj y).symm) hg
        rcases this with z | z
        · cases z
        · cases z
    · rw [setF_ne q] at ha
      have q3 : some m ≠ some n := fun y => q (by
        cases y
        rw [hu] at hu'
        exact (Option.some.inj hu').symm)
      exact j.has n a o ps hu' ((acs n q2).mp hac) q3 ha
  · have q : a ≠ g := Ne.symm (j.ac g a hu')
    rw [setF_ne q] at ha
    exact rec0 a o ps hu' ha
/-- it stands in a held group -/
theorem JE.stands (j : JE s h k (some m)) (am : act h k m) (nr : NoR s k m) (hu : up s m = some g) {b : Str} (hg : k g = some (some b, ps)) (hw : h m ≠ some .within) : JE s h (setF k g (some b, ps ++ [(m, true)])) none := by
  have ne := j.ac m g hu
  have hgn := j.gh hg
  obtain ⟨r1, r2⟩ := nr g _ ps hu hg
  have acs : ∀ n, act h (setF k g (some b, ps ++ [(m, true)])) n ↔ act h k n := fun n => by
    by_cases q : n = g
    · subst q
      rw [act_gs hgn]
      exact ⟨fun _ => Or.inr ⟨b, ps, hg⟩, fun _ => by simp⟩
    · exact act_g q
  have only : ∀ a, up s m = some a → a = g := fun a z => by rw [hu] at z; exact (Option.some.inj z).symm
  refine ⟨fun n z hz => ?_, j.ac, fun a qs n ha => ?_, fun a o qs n ha hp => ?_, fun a o qs ha => ?_, fun a qs ha => ?_, fun n a o qs hu' hac hn ha => ?_⟩
  · have q : n ≠ g := fun y => by rw [y, hgn] at hz; cases hz
    rw [setF_ne q]
    exact j.dj n z hz
  · rw [acs]
    by_cases q : a = g
    · subst q
      rw [setF_same] at ha
      cases ha
      obtain ⟨u1, u2⟩ := j.hold a ps b hg
      exact ⟨u1, fun _ => u2 fun y => r1 y.symm⟩
    · rw [setF_ne q] at ha
      obtain ⟨u1, u2⟩ := j.hold a qs n ha
      exact ⟨u1, fun _ => u2 fun y => q (only a (by cases y; exact u1))⟩
  · rw [acs]
    by_cases q : a = g
    · subst q
      rw [setF_same] at ha
      cases ha
      rcases List.mem_append.mp hp with z | z
      · obtain ⟨u1, u2, u3⟩ := j.plc a _ ps n hg z
        refine ⟨u1, u2, fun _ => u3 fun y => ?_⟩
        cases y
        exact r2 z
      · have : n = m := by
          have := List.mem_singleton.mp z
          exact congrArg Prod.fst this
        subst this
        exact ⟨hu, hw, fun _ => ⟨am, r1⟩⟩
    · rw [setF_ne q] at ha
      obtain ⟨u1, u2, u3⟩ := j.plc a o qs n ha hp
      exact ⟨u1, u2, fun _ => u3 fun y => q (only a (by cases y; exact u1))⟩
  · by_cases q : a = g
    · subst q
      rw [setF_same] at ha
      cases ha
      rw [List.filter_append, List.map_append]
      refine List.nodup_append.mpr ⟨j.one a _ ps hg, by simp, fun x hx y hy e => ?_⟩
      have : y = m := by simpa using hy
      subst this
      subst e
      obtain ⟨z, hz, hz2⟩ := List.mem_map.mp hx
      obtain ⟨hz1, hz3⟩ := List.mem_filter.mp hz
      obtain ⟨z1, z2⟩ := z
      simp only at hz2 hz3
      subst hz2 hz3
      exact r2 hz1
    · rw [setF_ne q] at ha
      exact j.one a o qs ha
  · by_cases q : a = g
    · subst q
      rw [setF_same] at ha
      cases ha
    · rw [setF_ne q] at ha
      exact j.bare a qs ha
  · rw [acs] at hac
    by_cases q : a = g
    · subst q
      rw [setF_same] at ha
      cases ha
      by_cases q3 : n = m
      · right
        rw [q3]
        simp
      · rcases j.has n a _ ps hu' hac (fun y => q3 (Option.some.inj y).symm) hg with z | z
        · exact Or.inl z
        · exact Or.inr (List.mem_append_left _ z)
    · rw [setF_ne q] at ha
      exact j.has n a o qs hu' hac (fun y => q (only a (by cases y; exact hu'))) ha
/-- one is out; its place is there still -/
theorem JE.outs (j : JE s h k none) {y : How} (hm : h m = some y) : JE s (setF h m .out) k (some m) ∧ ¬ act (setF h m .out) k m := by
  have km := j.dj m _ hm
  refine ⟨⟨fun n z hz => ?_, j.ac, fun g ps n hg => ?_, fun g o ps n hg hp => ?_, j.one, j.bare, fun n g o ps hu ha hn hg => ?_⟩, fun z => (act_hs km).mp z rfl⟩
  · by_cases q : n = m
    · subst q
      exact km
    · rw [setF_ne q] at hz
      exact j.dj n z hz
  · obtain ⟨a, b⟩ := j.hold g ps n hg
    refine ⟨a, fun hn => ?_⟩
    have q : n ≠ m := fun z => hn (by rw [z])
    rw [act_h q, setF_ne q]
    exact b (by simp)
  · obtain ⟨a, b, c⟩ := j.plc g o ps n hg hp
    refine ⟨a, ?_, fun hn => ?_⟩
    · by_cases q : n = m
      · rw [q, setF_same]
        simp
      · rw [setF_ne q]
        exact b
    · have q : n ≠ m := fun z => hn (by rw [z])
      rw [act_h q]
      exact c (by simp)
  · have q : n ≠ m := fun z => hn (by rw [z])
    exact j.has n g o ps hu ((act_h q).mp ha) (by simp) hg
/-- a group in whose row nobody stands is bare -/
theorem JE.bares (j : JE s h k (some m)) (na : ¬ act h k m) (hu : up s m = some g) (hg : k g = some (some m, ps)) (no : ∀ x, (x, true) ∉ ps) : JE s h (setF k g (none, [])) (some g) ∧ ¬ act h (setF k g (none, [])) g := by
  have ne := j.ac m g hu
  have hgn := j.gh hg
  have only : ∀ a, up s m = some a → a = g := fun a z => by rw [hu] at z; exact (Option.some.inj z).symm
  refine ⟨⟨fun n z hz => ?_, j.ac, fun a qs n ha => ?_, fun a o qs n ha hp => ?_, fun a o qs ha => ?_, fun a qs ha => ?_, fun n a o qs hu' hac hn ha => ?_⟩, fun z => (act_gs hgn).mp z rfl⟩
  · have q : n ≠ g := fun y => by rw [y, hgn] at hz; cases hz
    rw [setF_ne q]
    exact j.dj n z hz
  · by_cases q : a = g
    · subst q
      rw [setF_same] at ha
      cases ha
    · rw [setF_ne q] at ha
      obtain ⟨u1, u2⟩ := j.hold a qs n ha
      refine ⟨u1, fun hn => ?_⟩
      have q2 : n ≠ g := fun y => hn (by rw [y])
      rw [act_g q2]
      exact u2 fun y => q (only a (by cases y; exact u1))
  · by_cases q : a = g
    · subst q
      rw [setF_same] at ha
      cases ha
      cases hp
    · rw [setF_ne q] at ha
      obtain ⟨u1, u2, u3⟩ := j.plc a o qs n ha hp
      refine ⟨u1, u2, fun hn => ?_⟩
      have q2 : n ≠ g := fun y => hn (by rw [y])
      rw [act_g q2]
      exact u3 fun y => q (only a (by cases y; exact u1))
  · by_cases q : a = g
    · subst q
      rw [setF_same] at ha
      cases ha
      simp
    · rw [setF_ne q] at ha
      exact j.one a o qs ha
  · by_cases q : a = g
    · subst q
      rw [setF_same] at ha
      cases ha
      rfl
    · rw [setF_ne q] at ha
      exact j.bare a qs ha
  · have q2 : n ≠ g := fun y => hn (by rw [y])
    rw [act_g q2] at hac
    have q3 : n ≠ m := fun y => na (y ▸ hac)
    by_cases q : a = g
    · subst q
      rcases j.has n a _ ps hu' hac (fun y => q3 (Option.some.inj y).symm) hg with z | z
      · exact absurd (Option.some.inj z).symm q3
      · exact absurd z (no n)
    · rw [setF_ne q] at ha
      exact j.has n a o qs hu' hac (fun y => q3 (Option.some.inj y).symm) ha
theorem mem_rest {x : Str} {ps : List (Str × Bool)} (hx : (x, true) ∈ ps) : (x, true) ∈ ps.dropWhile fun p => !p.2 := by
  induction ps with
  | nil => cases hx
  | cons p t ih =>
    obtain ⟨p1, p2⟩ := p
    cases p2 with
    | true => simpa using hx
    | false =>
      rcases List.mem_cons.mp hx with z | z
      · cases z
      · simpa using ih z
theorem of_rest {x : Str × Bool} {ps : List (Str × Bool)} (hx : x ∈ ps.dropWhile fun p => !p.2) : x ∈ ps := (List.dropWhile_suffix _).subset hx
theorem filt_rest (ps : List (Str × Bool)) : (ps.dropWhile fun p => !p.2).filter (·.2) = ps.filter (·.2) := by
  induction ps with
  | nil => rfl
  | cons p t ih =>
    obtain ⟨p1, p2⟩ := p
    cases p2 with
    | true => simp
    | false => simpa using ih
theorem rest_true {ps rest : List (Str × Bool)} {p : Str × Bool} (h : ps.dropWhile (fun p => !p.2) = p :: rest) : p.2 = true := by
  induction ps with
  | nil => cases h
  | cons q t ih =>
    obtain ⟨q1, q2⟩ := q
    cases q2 with
    | true =>
      simp at h
      rw [← h.1]
    | false => exact ih (by simpa using h)
/-- the first one that stands is its holder -/
theorem JE.hands (j : JE s h k (some m)) (hu : up s m = some g) (hg : k g = some (some m, ps)) (am : act h k m ↔ (m, true) ∈ ps) {f : Str × Bool} {rest : List (Str × Bool)} (hd : ps.dropWhile (fun p => !p.2) = f :: rest) (hl : h f.1 ≠ some .loose) : JE s h (setF k g (some f.1, rest)) none := by
  have hgn := j.gh hg
  have ft := rest_true hd
  obtain ⟨f1, f2⟩ := f
  simp only at ft hl
  subst ft
  have only : ∀ a, up s m = some a → a = g := fun a z => by rw [hu] at z; exact (Option.some.inj z).symm
  have fin : (f1, true) ∈ ps := of_rest (by rw [hd]; exact List.mem_cons_self)
  have sub : ∀ {x}, (x, true) ∈ rest → (x, true) ∈ ps := fun z => of_rest (by rw [hd]; exact List.mem_cons_of_mem _ z)
  have acts : ∀ x, (x, true) ∈ ps → up s x = some g ∧ h x ≠ some .within ∧ act h k x := fun x hx => by
    obtain ⟨u1, u2, u3⟩ := j.plc g _ ps x hg hx
    refine ⟨u1, u2, ?_⟩
    by_cases q : x = m
    · subst q
      exact am.mpr hx
    · exact (u3 fun y => q (Option.some.inj y).symm).1
  have nd := j.one g _ ps hg
  rw [← filt_rest, hd] at nd
  simp only [List.filter_cons, if_pos, List.map_cons, List.nodup_cons] at nd
  have acs : ∀ n, act h (setF k g (some f1, rest)) n ↔ act h k n := fun n => by
    by_cases q : n = g
    · subst q
      rw [act_gs hgn]
      exact ⟨fun _ => Or.inr ⟨m, ps, hg⟩, fun _ => by simp⟩
    · exact act_g q
  refine ⟨fun n z hz => ?_, j.ac, fun a qs n ha => ?_, fun a o qs n ha hp => ?_, fun a o qs ha => ?_, fun a qs ha => ?_, fun n a o qs hu' hac hn ha => ?_⟩
  · have q : n ≠ g := fun y => by rw [y, hgn] at hz; cases hz
    rw [setF_ne q]
    exact j.dj n z hz
  · rw [acs]
    by_cases q : a = g
    · subst q
      rw [setF_same] at ha
      cases ha
      exact ⟨(acts _ fin).1, fun _ => ⟨(acts _ fin).2.2, hl⟩⟩
    · rw [setF_ne q] at ha
      obtain ⟨u1, u2⟩ := j.hold a qs n ha
      exact ⟨u1, fun _ => u2 fun y => q (only a (by cases y; exact u1))⟩
  · rw [acs]
    by_cases q : a = g
    · subst q
      rw [setF_same] at ha
      cases ha
      obtain ⟨u1, u2, u3⟩ := acts n (sub hp)
      refine ⟨u1, u2, fun _ => ⟨u3, fun y => ?_⟩⟩
      have e9 : f1 = n := Option.some.inj y
      exact nd.1 (by rw [e9]; exact List.mem_map.mpr ⟨(n, true), List.mem_filter.mpr ⟨hp, rfl⟩, rfl⟩)
    · rw [setF_ne q] at ha
      obtain ⟨u1, u2, u3⟩ := j.plc a o qs n ha hp
      exact ⟨u1, u2, fun _ => u3 fun y => q (only a (by cases y; exact u1))⟩
  · by_cases q : a = g
    · subst q
      rw [setF_same] at ha
      cases ha
      exact nd.2
    · rw [setF_ne q] at ha
      exact j.one a o qs ha
  · by_cases q : a = g
    · subst q
      rw [setF_same] at ha
      cases ha
    · rw [setF_ne q] at ha
      exact j.bare a qs ha
  · rw [acs] at hac
    by_cases q : a = g
    · subst q
      rw [setF_same] at ha
      cases ha
      have inps : (n, true) ∈ ps := by
        by_cases q3 : n = m
        · subst q3
          exact am.mp hac
        · rcases j.has n a _ ps hu' hac (fun y => q3 (Option.some.inj y).symm) hg with z | z
          · exact absurd (Option.some.inj z).symm q3
          · exact z
      have z := mem_rest inps
      rw [hd] at z
      rcases List.mem_cons.mp z with z | z
      · left
        have e9 : n = f1 := congrArg Prod.fst z
        exact congrArg some e9.symm
      · exact Or.inr z
    · rw [setF_ne q] at ha
      exact j.has n a o qs hu' hac (fun y => q (only a (by cases y; exact hu'))) ha
/-- a group whose bound is met stands behind all -/
theorem JE.overs (j : JE s h k none) {a : Str} (hu : up s g = some a) (ha : k a = some (some g, ps)) (hg : h g = none) : JE s h (setF k a (some g, ps ++ [(g, true)])) (some g) ∧ (act h (setF k a (some g, ps ++ [(g, true)])) g ↔ (g, true) ∈ ps ++ [(g, true)]) := by
  have hgn := j.gh ha
  have ag := ((j.hold a ps g ha).2 (by simp)).1
  have nin : (g, true) ∉ ps := fun z => ((j.plc a _ ps g ha z).2.2 (by simp)).2 rfl
  have acs : ∀ n, act h (setF k a (some g, ps ++ [(g, true)])) n ↔ act h k n := fun n => by
    by_cases q : n = a
    · subst q
      rw [act_gs hgn]
      exact ⟨fun _ => Or.inr ⟨g, ps, ha⟩, fun _ => by simp⟩
    · exact act_g q
  refine ⟨⟨fun n z hz => ?_, j.ac, fun b qs n hb => ?_, fun b o qs n hb hp => ?_, fun b o qs hb => ?_, fun b qs hb => ?_, fun n b o qs hu' hac hn hb => ?_⟩, by rw [acs]; exact ⟨fun _ => by simp, fun _ => ag⟩⟩
  · have q : n ≠ a := fun y => by rw [y, hgn] at hz; cases hz
    rw [setF_ne q]
    exact j.dj n z hz
  · rw [acs]
    by_cases q : b = a
    · subst q
      rw [setF_same] at hb
      cases hb
      exact ⟨hu, fun z => absurd rfl z⟩
    · rw [setF_ne q] at hb
      obtain ⟨u1, u2⟩ := j.hold b qs n hb
      exact ⟨u1, fun _ => u2 (by simp)⟩
  · rw [acs]
    by_cases q : b = a
    · subst q
      rw [setF_same] at hb
      cases hb
      rcases List.mem_append.mp hp with z | z
      · obtain ⟨u1, u2, u3⟩ := j.plc b _ ps n ha z
        exact ⟨u1, u2, fun _ => u3 (by simp)⟩
      · have : n = g := congrArg Prod.fst (List.mem_singleton.mp z)
        subst this
        exact ⟨hu, by rw [hg]; simp, fun z => absurd rfl z⟩
    · rw [setF_ne q] at hb
      obtain ⟨u1, u2, u3⟩ := j.plc b o qs n hb hp
      exact ⟨u1, u2, fun _ => u3 (by simp)⟩
  · by_cases q : b = a
    · subst q
      rw [setF_same] at hb
      cases hb
      rw [List.filter_append, List.map_append]
      refine List.nodup_append.mpr ⟨j.one b _ ps ha, by simp, fun x hx y hy e => ?_⟩
      have : y = g := by simpa using hy
      subst this
      subst e
      obtain ⟨z, hz, hz2⟩ := List.mem_map.mp hx
      obtain ⟨hz1, hz3⟩ := List.mem_filter.mp hz
      obtain ⟨z1, z2⟩ := z
      simp only at hz2 hz3
      subst hz2 hz3
      exact nin hz1
    · rw [setF_ne q] at hb
      exact j.one b o qs hb
  · by_cases q : b = a
    · subst q
      rw [setF_same] at hb
      cases hb
    · rw [setF_ne q] at hb
      exact j.bare b qs hb
  · rw [acs] at hac
    by_cases q : b = a
    · subst q
      rw [setF_same] at hb
      cases hb
      rcases j.has n b _ ps hu' hac (by simp) ha with z | z
      · exact Or.inl z
      · exact Or.inr (List.mem_append_left _ z)
    · rw [setF_ne q] at hb
      exact j.has n b o qs hu' hac (by simp) hb
theorem mem_without {x : Str} {ps : List (Str × Bool)} : (x, true) ∈ NL.without ps m ↔ (x, true) ∈ ps ∧ x ≠ m := by
  unfold NL.without
  rw [List.mem_map]
  constructor
  · rintro ⟨⟨a, b⟩, h1, h2⟩
    simp only [Prod.mk.injEq, Bool.and_eq_true, Bool.not_eq_true', decide_eq_false_iff_not] at h2
    obtain ⟨rfl, rfl, h3⟩ := h2
    exact ⟨h1, h3⟩
  · rintro ⟨h1, h2⟩
    exact ⟨(x, true), h1, by simp [h2]⟩
theorem filt_without (ps : List (Str × Bool)) : ((NL.without ps m).filter (·.2)).map (·.1) = ((ps.filter (·.2)).map (·.1)).filter fun x => !decide (x = m) := by
  induction ps with
  | nil => rfl
  | cons p t ih =>
    obtain ⟨a, b⟩ := p
    unfold NL.without at ih ⊢
    cases b with
    | false => simpa using ih
    | true =>
      by_cases q : a = m
      · simpa [q] using ih
      · simpa [q] using ih
/-- a place is left -/
theorem JE.lefts (j : JE s h k (some m)) (na : ¬ act h k m) (hu : up s m = some g) (hg : k g = some (o, ps)) (ho : o ≠ some m) : JE s h (setF k g (o, NL.without ps m)) none := by
  have hgn := j.gh hg
  have only : ∀ a, up s m = some a → a = g := fun a z => by rw [hu] at z; exact (Option.some.inj z).symm
  have acs : ∀ n, act h (setF k g (o, NL.without ps m)) n ↔ act h k n := fun n => by
    by_cases q : n = g
    · subst q
      rw [act_gs hgn]
      constructor
      · intro z
        cases o with
        | none => exact absurd rfl z
        | some o => exact Or.inr ⟨o, ps, hg⟩
      · rintro (⟨x, z, _⟩ | ⟨o', ps', z⟩)
        · rw [hgn] at z
          cases z
        · rw [hg] at z
          cases z
          simp
    · exact act_g q
  refine ⟨fun n z hz => ?_, j.ac, fun a qs n ha => ?_, fun a o' qs n ha hp => ?_, fun a o' qs ha => ?_, fun a qs ha => ?_, fun n a o' qs hu' hac hn ha => ?_⟩
  · have q : n ≠ g := fun y => by rw [y, hgn] at hz; cases hz
    rw [setF_ne q]
    exact j.dj n z hz
  · rw [acs]
    by_cases q : a = g
    · subst q
      rw [setF_same] at ha
      injection ha with ha
      injection ha with h1 h2
      subst h1
      obtain ⟨u1, u2⟩ := j.hold a ps n hg
      exact ⟨u1, fun _ => u2 fun y => ho y.symm⟩
    · rw [setF_ne q] at ha
      obtain ⟨u1, u2⟩ := j.hold a qs n ha
      exact ⟨u1, fun _ => u2 fun y => q (only a (by cases y; exact u1))⟩
  · rw [acs]
    by_cases q : a = g
    · subst q
      rw [setF_same] at ha
      injection ha with ha
      injection ha with h1 h2
      subst h1 h2
      obtain ⟨z, nm⟩ := mem_without.mp hp
      obtain ⟨u1, u2, u3⟩ := j.plc a _ ps n hg z
      exact ⟨u1, u2, fun _ => u3 fun y => nm (Option.some.inj y).symm⟩
    · rw [setF_ne q] at ha
      obtain ⟨u1, u2, u3⟩ := j.plc a o' qs n ha hp
      exact ⟨u1, u2, fun _ => u3 fun y => q (only a (by cases y; exact u1))⟩
  · by_cases q : a = g
    · subst q
      rw [setF_same] at ha
      injection ha with ha
      injection ha with h1 h2
      subst h1 h2
      rw [filt_without]
      exact (j.one a _ ps hg).sublist List.filter_sublist
    · rw [setF_ne q] at ha
      exact j.one a o' qs ha
  · by_cases q : a = g
    · subst q
      rw [setF_same] at ha
      injection ha with ha
      injection ha with h1 h2
      subst h1 h2
      rw [j.bare a ps hg]
      rfl
    · rw [setF_ne q] at ha
      exact j.bare a qs ha
  · rw [acs] at hac
    have q3 : n ≠ m := fun y => na (y ▸ hac)
    by_cases q : a = g
    · subst q
      rw [setF_same] at ha
      injection ha with ha
      injection ha with h1 h2
      subst h1 h2
      rcases j.has n a _ ps hu' hac (fun y => q3 (Option.some.inj y).symm) hg with z | z
      · exact Or.inl z
      · exact Or.inr (mem_without.mpr ⟨z, q3⟩)
    · rw [setF_ne q] at ha
      exact j.has n a o' qs hu' hac (fun y => q3 (Option.some.inj y).symm) ha
end
end NL
/-! a step keeps each one in one place, and goes through -/
namespace NL
open PySem L2 Evl
def hv (hs : List (Str × HR)) : HF := fun m => (getN hs m).map HR.how
def gv (gs : List (Str × GR)) : GF := fun g => (getN gs g).map fun r => (r.holder, r.places)
section
variable {hs : List (Str × HR)} {gs : List (Str × GR)} {n m : Str}
theorem hv_set {r r' : HR} (hn : getN hs n = some r) : hv (setN hs n r') = setF (hv hs) n r'.how := by
  funext m
  unfold hv setF
  rw [getN_set]
  by_cases e : m = n
  · rw [if_pos e, if_pos e, hn]
    rfl
  · rw [if_neg e, if_neg e]
theorem gv_set {g g' : GR} (hn : getN gs n = some g) : gv (setN gs n g') = setF (gv gs) n (g'.holder, g'.places) := by
  funext m
  unfold gv setF
  rw [getN_set]
  by_cases e : m = n
  · rw [if_pos e, if_pos e, hn]
    rfl
  · rw [if_neg e, if_neg e]
theorem hv_at {r : HR} (h : getN hs n = some r) : hv hs n = some r.how := by unfold hv; rw [h]; rfl
theorem gv_at {g : GR} (h : getN gs n = some g) : gv gs n = some (g.holder, g.places) := by unfold gv; rw [h]; rfl
theorem hv_of {y : How} (h : hv hs n = some y) : ∃ r, getN hs n = some r ∧ r.how = y := by
  unfold hv at h
  cases z : getN hs n with
  | none => rw [z] at h; cases h
  | some r => rw [z] at h; exact ⟨r, rfl, Option.some.inj h⟩
theorem gv_of {o : Option Str} {ps : List (Str × Bool)} (h : gv gs n = some (o, ps)) : ∃ g, getN gs n = some g ∧ g.holder = o ∧ g.places = ps := by
  unfold gv at h
  cases z : getN gs n with
  | none => rw [z] at h; cases h
  | some g =>
    rw [z] at h
    have := Option.some.inj h
    exact ⟨g, rfl, congrArg Prod.fst this, congrArg Prod.snd this⟩
theorem gv_none (h : gv gs n = none) : getN gs n = none := by
  unfold gv at h
  cases z : getN gs n with
  | none => rfl
  | some g => rw [z] at h; cases h
end
/-! ### a lock given down -/
inductive DownTo (h : HF) (k : GF) : Str → Nat → Str → Prop
  | hand {m : Str} {x : How} : k m = none → h m = some x → DownTo h k m 1 m
  | grp {m m' z : Str} {n : Nat} {ps : List (Str × Bool)} : k m = some (some m', ps) → DownTo h k m' n z → DownTo h k m (n + 1) z
theorem down_ok : ∀ {fuel : Nat} {d : DS} {m z : Str} {n : Nat}, DownTo (hv d.hs) (gv d.gs) m n z → n ≤ fuel → downOk fuel d m
  | 0, d, m, z, n, dn, h => by cases dn <;> omega
  | fuel + 1, d, m, z, n, dn, h => by
    unfold downOk
    cases dn with
    | hand h1 h2 =>
      rw [gv_none h1]
      obtain ⟨r, e, _⟩ := hv_of h2
      exact ⟨r, e⟩
    | grp h1 h2 =>
      obtain ⟨g, e1, e2, e3⟩ := gv_of h1
      rw [e1]
      refine ⟨_, e2, down_ok (n := _) (z := z) ?_ (Nat.le_of_succ_le_succ h)⟩
      have : gv (d.setG m { g with count := 1 }).gs = gv d.gs := by
        show gv (setN d.gs m _) = _
        rw [gv_set e1]
        exact setF_id (f := gv d.gs) (v := (g.holder, g.places)) (gv_at e1)
      rw [this]
      exact h2
theorem give_eff : ∀ {fuel : Nat} {d : DS} {m z : Str} {n : Nat}, DownTo (hv d.hs) (gv d.gs) m n z → n ≤ fuel → gv (giveLock fuel d m).gs = gv d.gs ∧ (giveLock fuel d m).gs.map (·.1) = d.gs.map (·.1) ∧ (giveLock fuel d m).firsts = d.firsts ∧ (giveLock fuel d m).told.length = d.told.length + 1 ∧
    ∃ r, getN d.hs z = some r ∧ (giveLock fuel d m).hs = setN d.hs z ⟨r.row + 1, 1, .within, none⟩
  | 0, d, m, z, n, dn, h => by cases dn <;> omega
  | fuel + 1, d, m, z, n, dn, h => by
    cases dn with
    | hand h1 h2 =>
      obtain ⟨r, e, _⟩ := hv_of h2
      unfold giveLock
      rw [gv_none h1]
      unfold came
      simp only [e]
      exact ⟨rfl, rfl, rfl, tell_len _ _, r, rfl, rfl⟩
    | grp h1 h2 =>
      obtain ⟨g, e1, e2, e3⟩ := gv_of h1
      unfold giveLock
      rw [e1]
      dsimp only
      rw [e2, Option.getD_some]
      have eg : gv (d.setG m ⟨g.holder, 1, g.places⟩).gs = gv d.gs := by
        show gv (setN d.gs m _) = _
        rw [gv_set e1]
        exact setF_id (f := gv d.gs) (v := (g.holder, g.places)) (gv_at e1)
      rw [← e2]
      have := give_eff (fuel := fuel) (d := d.setG m ⟨g.holder, 1, g.places⟩) (z := z) (by rw [eg]; exact h2) (Nat.le_of_succ_le_succ h)
      obtain ⟨a, b, c, dd, r, e, f⟩ := this
      refine ⟨by rw [a, eg], by rw [b]; exact keys_set _ _ _, c, dd, r, e, f⟩
/-! ### the plan -/
structure SOk (s : Sta) (hk gk : List Str) (w : Str) : Prop where
  ph : ∀ h ∈ hk, ∃ g p, getN s.paths h = some (g :: p)
  pg : ∀ g ∈ gk, ∃ p, getN s.paths g = some p
  st : ∀ m g p, getN s.paths m = some (g :: p) → g ∈ gk ∧ getN s.paths g = some p
  dj : ∀ h ∈ hk, h ∉ gk
  wg : w ∈ gk
  wp : getN s.paths w = some []
  tp : ∀ m, getN s.paths m = some [] → m = w
  sh : ∀ m p, getN s.paths m = some p → p.length ≤ 10
  bd : ∀ g ∈ gk, ∃ b, getN s.bounds g = some b
  pr : ∀ h ∈ hk, ∃ rows, getN s.progs h = some rows ∧ rows.length ≤ 5000 ∧ ∀ n, (Row.goto n ∈ rows ∨ ∃ a, Row.iff a n ∈ rows) → 0 ≤ n ∧ n ≤ (rows.length : Int)
  lk : ∀ h ∈ hk, ∀ rows, getN s.progs h = some rows → ∀ l, Row.take (some l) ∈ rows → 0 ≤ l
theorem up_of {s : Sta} {m g : Str} {p : List Str} (h : getN s.paths m = some (g :: p)) : up s m = some g := by unfold up; rw [h]
theorem of_up {s : Sta} {m g : Str} (h : up s m = some g) : ∃ p, getN s.paths m = some (g :: p) := by
  unfold up at h
  split at h
  · rename_i g' p z
    cases h
    exact ⟨p, z⟩
  · cases h
def Locked (k : GF) : Str → List Str → Prop
  | _, [] => True
  | m, g :: p => (∃ ps, k g = some (some m, ps)) ∧ Locked k g p
theorem locked_set {k : GF} {g : Str} {v : Option Str × List (Str × Bool)} : ∀ {p : List Str} {m : Str}, g ∉ p → (Locked (setF k g v) m p ↔ Locked k m p)
  | [], m, _ => Iff.rfl
  | a :: p, m, h => by
    rw [List.mem_cons, not_or] at h
    unfold Locked
    rw [setF_ne (Ne.symm h.1), locked_set h.2]
theorem locked_some {k : GF} : ∀ {p : List Str} {m g : Str}, Locked k m p → g ∈ p → ∃ x ps, k g = some (some x, ps) ∧ x ∈ m :: p
  | a :: p, m, g, h, hg => by
    obtain ⟨⟨ps, h1⟩, h2⟩ := h
    rcases List.mem_cons.mp hg with z | z
    · subst z
      exact ⟨m, ps, h1, List.mem_cons_self⟩
    · obtain ⟨x, qs, e, hx⟩ := locked_some h2 z
      exact ⟨x, qs, e, List.mem_cons_of_mem _ hx⟩
def LK (s : Sta) (w : Str) (h : HF) (k : GF) : Prop := ((∃ ps, k w = some (none, ps)) ∧ ∀ m, h m ≠ some .within) ∨ ∃ m p, h m = some .within ∧ getN s.paths m = some p ∧ Locked k m p ∧ ∀ n, h n = some .within → n = m
structure Core (s : Sta) (w : Str) (h : HF) (k : GF) : Prop where
  je : JE s h k none
  lk : LK s w h k
def RowI (s : Sta) (hs : List (Str × HR)) : Prop := ∀ n r rows, getN hs n = some r → getN s.progs n = some rows → 0 ≤ r.row ∧ r.row ≤ (rows.length : Int) ∧ (r.how = .loose ∨ r.how = .waits → r.row < (rows.length : Int)) ∧ ∀ l, r.looks = some l → 0 ≤ l
theorem RowI.set {s : Sta} {hs : List (Str × HR)} {n : Str} {r r' : HR} (h : RowI s hs) (hn : getN hs n = some r) (hr : ∀ rows, getN s.progs n = some rows → 0 ≤ r'.row ∧ r'.row ≤ (rows.length : Int) ∧ (r'.how = .loose ∨ r'.how = .waits → r'.row < (rows.length : Int)) ∧ ∀ l, r'.looks = some l → 0 ≤ l) : RowI s (setN hs n r') := by
  intro m x rows hm hp
  by_cases e : m = n
  · subst e
    rw [getN_same hn] at hm
    cases hm
    exact hr rows hp
  · rw [getN_other e] at hm
    exact h m x rows hm hp
theorem key_some {α : Type} {xs : List (Str × α)} {ks : List Str} {n : Str} (h : xs.map (·.1) = ks) (hn : n ∈ ks) : ∃ x, getN xs n = some x := by
  have := getN_isSome xs n
  rw [h, decide_eq_true hn] at this
  exact Option.isSome_iff_exists.mp this
theorem some_key {α : Type} {xs : List (Str × α)} {ks : List Str} {n : Str} {x : α} (h : xs.map (·.1) = ks) (hn : getN xs n = some x) : n ∈ ks := by
  have := getN_isSome xs n
  rw [h, hn] at this
  exact of_decide_eq_true this.symm
section
variable {s : Sta} {hk gk : List Str} {w : Str}
/-- who stands or holds: down from it one comes to a hand -/
theorem down_of (so : SOk s hk gk w) {h : HF} {k : GF} (j : JE s h k none) : ∀ (i : Nat) {m : Str} {p : List Str}, act h k m → getN s.paths m = some p → p.length + i = 11 → ∃ n z, DownTo h k m n z ∧ n ≤ i + 1 ∧ (∃ y, h z = some y ∧ y ≠ .out) ∧ (z = m ∨ h z ≠ some .loose) ∧ (z ≠ m → ∃ g ps, k g = some (some z, ps)) ∧
    ∀ q, Locked k m q → getN s.paths m = some q → ∃ q', getN s.paths z = some q' ∧ Locked k z q'
  | 0, m, p, a, hp, hl => by
    have := so.sh m p hp
    omega
  | i + 1, m, p, a, hp, hl => by
    rcases a with ⟨x, hx, hy⟩ | ⟨m', ps, hk'⟩
    · exact ⟨1, m, .hand (j.dj m x hx) hx, by omega, ⟨x, hx, hy⟩, Or.inl rfl, fun z => absurd rfl z, fun q lq hq => ⟨q, hq, lq⟩⟩
    · obtain ⟨u1, u2⟩ := j.hold m ps m' hk'
      obtain ⟨a', nl⟩ := u2 (by simp)
      obtain ⟨p', hp'⟩ := of_up u1
      have e := (so.st m' m p' hp').2
      rw [hp] at e
      have e' := Option.some.inj e
      subst e'
      obtain ⟨n, z, dn, hn, hz, hz2, hz3, hz4⟩ := down_of so j i a' hp' (by rw [List.length_cons]; omega)
      refine ⟨n + 1, z, .grp hk' dn, by omega, hz, Or.inr ?_, fun _ => ?_, fun q lq hq => ?_⟩
      · rcases hz2 with e | e
        · rw [e]
          exact nl
        · exact e
      · by_cases e : z = m'
        · subst e
          exact ⟨m, ps, hk'⟩
        · exact hz3 e
      · rw [hp] at hq
        cases hq
        exact hz4 (m :: p) ⟨⟨ps, hk'⟩, lq⟩ hp'
end
end NL
/-! a step keeps each one in one place, and goes through: standing -/
namespace NL
open PySem L2 Evl
def kh (k : GF) (g : Str) : Option (Option Str) := (k g).map (·.1)
theorem kh_at {k : GF} {g : Str} {o : Option Str} {ps : List (Str × Bool)} (h : k g = some (o, ps)) : kh k g = some o := by unfold kh; rw [h]; rfl
theorem kh_of {k : GF} {g : Str} {o : Option Str} (h : kh k g = some o) : ∃ ps, k g = some (o, ps) := by
  unfold kh at h
  cases z : k g with
  | none => rw [z] at h; cases h
  | some v =>
    rw [z] at h
    obtain ⟨a, b⟩ := v
    cases h
    exact ⟨b, rfl⟩
theorem kh_set {k : GF} {g : Str} {o : Option Str} {ps qs : List (Str × Bool)} (h : k g = some (o, ps)) (n : Str) : kh k n = kh (setF k g (o, qs)) n := by
  by_cases e : n = g
  · rw [e, kh_at h]
    unfold kh
    rw [setF_same]
    rfl
  · unfold kh
    rw [setF_ne e]
theorem locked_congr {k k' : GF} (e : ∀ g, kh k g = kh k' g) : ∀ {p : List Str} {m : Str}, Locked k m p → Locked k' m p
  | [], m, _ => trivial
  | g :: p, m, ⟨⟨ps, h1⟩, h2⟩ => ⟨kh_of (by rw [← e g]; exact kh_at h1), locked_congr e h2⟩
section
variable {s : Sta} {hk gk : List Str} {w : Str} {h h' : HF} {k k' : GF}
theorem LK.congr (x : LK s w h k) (eh : ∀ n, h' n = some .within ↔ h n = some .within) (ek : ∀ g, kh k g = kh k' g) : LK s w h' k' := by
  rcases x with ⟨⟨ps, a⟩, b⟩ | ⟨m, p, a, b, c, d⟩
  · exact Or.inl ⟨kh_of (by rw [← ek w]; exact kh_at a), fun n hn => b n ((eh n).mp hn)⟩
  · exact Or.inr ⟨m, p, (eh m).mpr a, b, locked_congr ek c, fun n hn => d n ((eh n).mp hn)⟩
theorem LK.hold {g : Str} {ps : List (Str × Bool)} {v : Option Str × List (Str × Bool)} (x : LK s w h k) (hg : k g = some (none, ps)) (ne : g ≠ w) : LK s w h (setF k g v) := by
  rcases x with ⟨⟨ps, a⟩, b⟩ | ⟨m, p, a, b, c, d⟩
  · exact Or.inl ⟨⟨ps, by rw [setF_ne (Ne.symm ne)]; exact a⟩, b⟩
  · refine Or.inr ⟨m, p, a, b, (locked_set fun z => ?_).mpr c, d⟩
    obtain ⟨y, qs, e, _⟩ := locked_some c z
    rw [hg] at e
    cases e
theorem path_suf (so : SOk s hk gk w) : ∀ {p : List Str} {m : Str}, getN s.paths m = some p → ∀ x ∈ p, ∃ pre q, p = pre ++ x :: q ∧ getN s.paths x = some q
  | [], m, hp, x, hx => by cases hx
  | g :: p, m, hp, x, hx => by
    have e := (so.st m g p hp).2
    rcases List.mem_cons.mp hx with z | z
    · subst z
      exact ⟨[], p, rfl, e⟩
    · obtain ⟨pre, q, h1, h2⟩ := path_suf so e x z
      exact ⟨g :: pre, q, by rw [h1]; rfl, h2⟩
theorem path_self (so : SOk s hk gk w) {p : List Str} {m : Str} (hp : getN s.paths m = some p) : m ∉ p := fun hm => by
  obtain ⟨pre, q, h1, h2⟩ := path_suf so hp m hm
  rw [hp] at h2
  have h2 := Option.some.inj h2
  subst h2
  have := congrArg List.length h1
  rw [List.length_append, List.length_cons] at this
  omega
theorem path_nd (so : SOk s hk gk w) : ∀ {p : List Str} {m : Str}, getN s.paths m = some p → p.Nodup
  | [], _, _ => List.nodup_nil
  | g :: p, m, hp => List.nodup_cons.mpr ⟨path_self so (so.st m g p hp).2, path_nd so (so.st m g p hp).2⟩
theorem path_gk (so : SOk s hk gk w) : ∀ {p : List Str} {m : Str}, getN s.paths m = some p → ∀ x ∈ p, x ∈ gk
  | [], _, _, x, hx => by cases hx
  | g :: p, m, hp, x, hx => by
    rcases List.mem_cons.mp hx with z | z
    · rw [z]
      exact (so.st m g p hp).1
    · exact path_gk so (so.st m g p hp).2 x z
theorem path_last (so : SOk s hk gk w) : ∀ {p : List Str} {m : Str}, getN s.paths m = some p → p ≠ [] → p.getLastD m = w ∧ w ∈ p
  | [], _, _, h => absurd rfl h
  | [g], m, hp, _ => by
    have e := so.tp g (so.st m g [] hp).2
    subst e
    exact ⟨rfl, List.mem_cons_self⟩
  | g :: g2 :: p, m, hp, _ => by
    obtain ⟨a, b⟩ := path_last so (so.st m g _ hp).2 (by simp)
    refine ⟨?_, List.mem_cons_of_mem _ b⟩
    rw [List.getLastD_cons]
    exact a
theorem JE.top {m : Str} (j : JE s h k (some m)) (hu : up s m = none) : JE s h k none := by
  have ne : ∀ {n g : Str}, up s n = some g → some m ≠ some n := fun z y => by
    cases y
    rw [hu] at z
    cases z
  refine ⟨j.dj, j.ac, fun g ps n hg => ?_, fun g o ps n hg hp => ?_, j.one, j.bare, fun n g o ps u a _ hg => j.has n g o ps u a (ne u) hg⟩
  · obtain ⟨a, b⟩ := j.hold g ps n hg
    exact ⟨a, fun _ => b (ne a)⟩
  · obtain ⟨a, b, c⟩ := j.plc g o ps n hg hp
    exact ⟨a, b, fun _ => c (ne a)⟩
theorem JE.noplace {z g : Str} {ps : List (Str × Bool)} (j : JE s h k none) (hg : k g = some (some z, ps)) : ∀ g' o ps', k g' = some (o, ps') → (z, true) ∉ ps' := fun g' o ps' hg' hp => by
  have u := (j.hold g ps z hg).1
  obtain ⟨u', _, c⟩ := j.plc g' o ps' z hg' hp
  rw [u] at u'
  cases u'
  rw [hg] at hg'
  cases hg'
  exact (c (by simp)).2 rfl
theorem core_in {z g : Str} {q : List Str} {ps : List (Str × Bool)} (j : JE s h k none) (nw : ∀ n, h n ≠ some .within) (hz : h z = some .waits) (hq : getN s.paths z = some q) (lq : Locked k z q) (hg : k g = some (some z, ps)) : Core s w (setF h z .within) k := by
  refine ⟨j.how hz (by decide) (by decide) (fun e => by cases e) (fun _ => j.noplace hg), Or.inr ⟨z, q, setF_same, hq, lq, fun n hn => ?_⟩⟩
  by_cases e : n = z
  · exact e
  · rw [setF_ne e] at hn
    exact absurd hn (nw n)
def LockTo (k : GF) : Str → List Str → Str → Prop
  | m, [], z => m = z
  | m, g :: pre, z => (∃ ps, k g = some (some m, ps)) ∧ LockTo k g pre z
theorem lockTo_set {g : Str} {v : Option Str × List (Str × Bool)} : ∀ {pre : List Str} {m z : Str}, g ∉ pre → (LockTo (setF k g v) m pre z ↔ LockTo k m pre z)
  | [], m, z, _ => Iff.rfl
  | a :: p, m, z, h => by
    rw [List.mem_cons, not_or] at h
    unfold LockTo
    rw [setF_ne (Ne.symm h.1), lockTo_set h.2]
theorem lockTo_app : ∀ {pre : List Str} {m z : Str} {p : List Str}, LockTo k m pre z → Locked k z p → Locked k m (pre ++ p)
  | [], m, z, p, e, l => by cases e; exact l
  | g :: pre, m, z, p, ⟨a, b⟩, l => ⟨a, lockTo_app b l⟩
theorem lockTo_snoc {g : Str} {ps : List (Str × Bool)} : ∀ {pre : List Str} {m z : Str}, LockTo k m pre z → k g = some (some z, ps) → LockTo k m (pre ++ [g]) g
  | [], m, z, e, l => by cases e; exact ⟨⟨ps, l⟩, rfl⟩
  | _ :: pre, m, z, ⟨a, b⟩, l => ⟨a, lockTo_snoc b l⟩
theorem lockTo_down : ∀ {pre : List Str} {m z y : Str} {n : Nat}, LockTo k m pre z → DownTo h k m n y → DownTo h k z (n + pre.length) y
  | [], m, z, y, n, e, d => by cases e; exact d
  | g :: pre, m, z, y, n, ⟨⟨ps, e⟩, t⟩, d => by
    have := lockTo_down t (DownTo.grp e d)
    rw [List.length_cons]
    rw [show n + (pre.length + 1) = n + 1 + pre.length by omega]
    exact this
end
structure WF (s : Sta) (hk gk : List Str) (w : Str) (x : SH) (N : Nat) : Prop where
  ks : x.hs.map (·.1) = hk
  gs : x.gs.map (·.1) = gk
  co : Core s w (hv x.hs) (gv x.gs)
  ri : RowI s x.hs
  ln : ∀ g r, getN x.gs g = some r → r.places.length ≤ N
theorem ln_gv {a b : List (Str × GR)} {N : Nat} (e : gv a = gv b) (h : ∀ g r, getN b g = some r → r.places.length ≤ N) : ∀ g r, getN a g = some r → r.places.length ≤ N := fun g r hg => by
  have := gv_at hg
  rw [e] at this
  obtain ⟨r', h1, _, h3⟩ := gv_of this
  rw [← h3]
  exact h g r' h1
theorem ln_set {a : List (Str × GR)} {N : Nat} {n : Str} {v : GR} (h : ∀ g r, getN a g = some r → r.places.length ≤ N) (hv : v.places.length ≤ N) : ∀ g r, getN (setN a n v) g = some r → r.places.length ≤ N := fun g r hg => by
  rw [getN_set] at hg
  split at hg
  · cases z : getN a n with
    | none => rw [z] at hg; cases hg
    | some y => rw [z] at hg; cases hg; exact hv
  · exact h g r hg
section
variable {s : Sta} {hk gk : List Str} {w : Str}
theorem stand_loop (so : SOk s hk gk w) {hand : Str} {p0 : List Str} (hp0 : getN s.paths hand = some p0) (hne : p0 ≠ []) {r : HR} {l : Option Int} {N : Nat} (hN : N ≤ 5000) (rl : ∀ rows, getN s.progs hand = some rows → 0 ≤ r.row ∧ r.row < (rows.length : Int)) (ll : ∀ i, l = some i → 0 ≤ i) :
    ∀ (p pre : List Str) (d : DS) (m : Str), p0 = pre ++ p → getN s.paths m = some p → LockTo (gv d.gs) hand pre m → getN d.hs hand = some ⟨r.row, r.last, .waits, l⟩ → JE s (hv d.hs) (gv d.gs) (some m) → act (hv d.hs) (gv d.gs) m → NoR s (gv d.gs) m → hv d.hs m ≠ some .loose → hv d.hs m ≠ some .within →
      (p ≠ [] → LK s w (hv d.hs) (gv d.gs)) → (p = [] → ∀ n, hv d.hs n ≠ some .within) → RowI s d.hs → d.hs.map (·.1) = hk → d.gs.map (·.1) = gk → (∀ g r, getN d.gs g = some r → r.places.length ≤ N) →
      standOk hand r l d m p ∧ WF s hk gk w ⟨(standL hand r l d m p).hs, (standL hand r l d m p).gs⟩ (N + 1)
  | [], pre, d, m, ep, hp, lt, hh, j, am, nr, nl, nw, lk, no, ri, ks, gs, ln => by
    rw [List.append_nil] at ep
    subst ep
    have hv0 : hv d.hs hand = some .waits := hv_at hh
    have j' := j.top (show up s m = none by unfold up; rw [hp])
    have dn := lockTo_down lt (DownTo.hand (j.dj hand _ hv0) hv0)
    have sh := so.sh hand p0 hp0
    have le : 1 + p0.length ≤ FU := by show _ ≤ 64; omega
    refine ⟨down_ok dn le, ?_⟩
    obtain ⟨a, b, c, _, r0, e, f⟩ := give_eff dn le
    rw [hh] at e
    cases e
    have k1 : ∃ g ps, gv d.gs g = some (some hand, ps) := by
      cases p0 with
      | nil => exact absurd rfl hne
      | cons g1 t => exact ⟨g1, lt.1⟩
    obtain ⟨g1, ps1, hg1⟩ := k1
    have lck : Locked (gv d.gs) hand p0 := by
      have := lockTo_app (p := []) lt trivial
      rw [List.append_nil] at this
      exact this
    show WF s hk gk w ⟨(giveLock FU d m).hs, (giveLock FU d m).gs⟩ _
    refine ⟨?_, ?_, ?_, ?_, fun g r hg => Nat.le_succ_of_le (ln_gv a ln g r hg)⟩
    · show (giveLock FU d m).hs.map (·.1) = hk
      rw [f, keys_set]
      exact ks
    · exact b.trans gs
    · show Core s w (hv (giveLock FU d m).hs) (gv (giveLock FU d m).gs)
      rw [a, f, hv_set hh]
      exact core_in j' (no rfl) hv0 hp0 lck hg1
    · show RowI s (giveLock FU d m).hs
      rw [f]
      refine ri.set hh fun rows hr => ?_
      have := rl rows hr
      exact ⟨by show 0 ≤ r.row + 1; omega, by show r.row + 1 ≤ _; omega, (fun z => by rcases z with z | z <;> cases z), fun _ z => by cases z⟩
  | g :: p, pre, d, m, ep, hp, lt, hh, j, am, nr, nl, nw, lk, no, ri, ks, gs, ln => by
    have hv0 : hv d.hs hand = some .waits := hv_at hh
    obtain ⟨gin, hg'⟩ := so.st m g p hp
    obtain ⟨gr, hgr⟩ := key_some gs gin
    have hu := up_of hp
    have lk9 := lk (by simp)
    have hgv := gv_at hgr
    cases ho : gr.holder with
    | none =>
      rw [ho] at hgv
      obtain ⟨j1, nr1, am1⟩ := j.holds am hu hgv nl
      have egv : gv ((d.setG g { gr with holder := some m }).tell (e3 "held" m g)).gs = setF (gv d.gs) g (some m, gr.places) := gv_set hgr
      have nd := path_nd so hp0
      rw [ep] at nd
      have gpre : g ∉ pre := fun z => (List.nodup_append.mp nd).2.2 g z g List.mem_cons_self rfl
      have hgn := j.gh hgv
      have ih := stand_loop so hp0 hne hN rl ll p (pre ++ [g]) ((d.setG g { gr with holder := some m }).tell (e3 "held" m g)) g (by rw [ep]; simp) hg' (by rw [egv]; exact lockTo_snoc ((lockTo_set gpre).mpr lt) setF_same) hh (by rw [egv]; exact j1) (by rw [egv]; exact am1) (by rw [egv]; exact nr1) (by show hv d.hs g ≠ _; rw [hgn]; simp) (by show hv d.hs g ≠ _; rw [hgn]; simp) ?_ ?_ ri ks (by rw [← gs]; exact keys_set _ _ _) (ln_set ln (ln g gr hgr))
      · refine ⟨⟨gr, hgr, Nat.le_trans (ln g gr hgr) hN, fun _ => ih.1⟩, ?_⟩
        have e : standL hand r l d m (g :: p) = standL hand r l ((d.setG g { gr with holder := some m }).tell (e3 "held" m g)) g p := by
          show (match getN d.gs g with | some gr => _ | none => _) = _
          rw [hgr]
          dsimp only
          rw [ho]
          rfl
        rw [e]
        exact ih.2
      · intro np
        rw [egv]
        refine lk9.hold hgv fun e => np ?_
        rw [e, so.wp] at hg'
        exact (Option.some.inj hg').symm
      · intro np n
        subst np
        have ew := so.tp g hg'
        rcases lk9 with ⟨_, b⟩ | ⟨m1, p1, a1, b1, c1, d1⟩
        · exact b n
        · have p1n : p1 ≠ [] := fun z => by
            rw [z] at b1
            have e := so.tp m1 b1
            obtain ⟨r1, hr1, _⟩ := hv_of a1
            exact so.dj m1 (some_key ks hr1) (by rw [e]; exact so.wg)
          have := (path_last so b1 p1n).2
          obtain ⟨y, qs, e, _⟩ := locked_some c1 this
          rw [← ew, hgv] at e
          cases e
    | some b =>
      refine ⟨⟨gr, hgr, Nat.le_trans (ln g gr hgr) hN, fun z => by rw [ho] at z; cases z⟩, ?_⟩
      rw [ho] at hgv
      have j1 := j.stands am nr hu hgv nw
      have egv : gv (setN d.gs g { gr with places := gr.places ++ [(m, true)] }) = setF (gv d.gs) g (some b, gr.places ++ [(m, true)]) := by
        rw [gv_set hgr, ho]
      have ln1 : ∀ g' r', getN (setN d.gs g { gr with places := gr.places ++ [(m, true)] }) g' = some r' → r'.places.length ≤ N + 1 := ln_set (fun a b c => Nat.le_succ_of_le (ln a b c)) (by rw [List.length_append]; exact Nat.succ_le_succ (ln g gr hgr))
      have lk1 := lk9.congr (fun _ => Iff.rfl) (kh_set (qs := gr.places ++ [(m, true)]) hgv)
      have ea : addPlace d m g = d.setG g { gr with places := gr.places ++ [(m, true)] } := by
        unfold addPlace
        rw [hgr]
      have e : standL hand r l d m (g :: p) = if m = hand then (((d.setG g { gr with places := gr.places ++ [(m, true)] }).tell (e3 "stood" m g)).setH hand ⟨r.row, r.last, .loose, l⟩) else ((d.setG g { gr with places := gr.places ++ [(m, true)] }).tell (e3 "stood" m g)) := by
        show (match getN d.gs g with | some gr => _ | none => _) = _
        rw [hgr]
        dsimp only
        rw [if_pos (show gr.holder.isSome = true by rw [ho]; rfl), ea]
      rw [e]
      by_cases em : m = hand
      · rw [if_pos em]
        subst em
        have r1 := (nr g _ _ hu hgv).1
        refine ⟨by rw [← ks]; exact keys_set _ _ _, by rw [← gs]; exact keys_set _ _ _, ?_, ?_, ln1⟩
        · show Core s w (hv (setN d.hs m _)) (gv (setN d.gs g _))
          rw [egv, hv_set hh]
          refine ⟨j1.how hv0 (by decide) (show How.loose ≠ .out by decide) (fun _ g' ps' hg2 => ?_) (fun z => by cases z), lk1.congr (fun n => ?_) fun _ => rfl⟩
          · by_cases e2 : g' = g
            · rw [e2, setF_same] at hg2
              cases hg2
              exact r1 rfl
            · have := (j1.hold g' ps' m hg2).1
              rw [hu] at this
              exact e2 (Option.some.inj this).symm
          · by_cases e2 : n = m
            · rw [e2, setF_same, hv0]
              constructor <;> intro z <;> cases z
            · rw [setF_ne e2]
        · exact ri.set hh fun rows hr => ⟨(rl rows hr).1, Int.le_of_lt (rl rows hr).2, fun _ => (rl rows hr).2, ll⟩
      · rw [if_neg em]
        refine ⟨ks, by rw [← gs]; exact keys_set _ _ _, ?_, ri, ln1⟩
        show Core s w (hv d.hs) (gv (setN d.gs g _))
        rw [egv]
        exact ⟨j1, lk1⟩
/-- a hand that is out stands -/
theorem stand_wf (so : SOk s hk gk w) {x : SH} {N : Nat} (hN : N ≤ 5000) (f : WF s hk gk w x N) {d : DS} (eh : d.hs = x.hs) (eg : d.gs = x.gs) {h : Str} {r : HR} {l : Option Int} (hr : getN x.hs h = some r) (ho : r.how = .out) (rl : ∀ rows, getN s.progs h = some rows → 0 ≤ r.row ∧ r.row < (rows.length : Int)) (ll : ∀ i, l = some i → 0 ≤ i) :
    sOk s d h r l ∧ WF s hk gk w ⟨(stand s d h l).hs, (stand s d h l).gs⟩ (N + 1) := by
  have hin := some_key f.ks hr
  obtain ⟨g0, p0, hp⟩ := so.ph h hin
  have hv0 : hv x.hs h = some .out := by rw [hv_at hr, ho]
  obtain ⟨j1, nr⟩ := f.co.je.begins hv0
  have km := f.co.je.dj h _ hv0
  have hd : getN d.hs h = some r := by rw [eh]; exact hr
  have ehv : hv (setN x.hs h ⟨r.row, r.last, .waits, l⟩) = setF (hv x.hs) h .waits := hv_set hr
  have key := stand_loop so hp (by simp) hN rl ll (g0 :: p0) [] (d.setH h ⟨r.row, r.last, .waits, l⟩) h rfl hp rfl (getN_same hd) (by show JE s (hv (setN d.hs h _)) (gv d.gs) _; rw [eh, eg, ehv]; exact j1) (by show act (hv (setN d.hs h _)) (gv d.gs) h; rw [eh, eg, ehv]; exact (act_hs km).mpr (by decide)) (by show NoR s (gv d.gs) h; rw [eg]; exact nr)
    (by show hv (setN d.hs h _) h ≠ _; rw [eh, ehv, setF_same]; decide) (by show hv (setN d.hs h _) h ≠ _; rw [eh, ehv, setF_same]; decide) ?_ (fun z => by cases z) ?_ (by rw [← f.ks, ← eh]; exact keys_set _ _ _) (by rw [← f.gs, ← eg]; rfl) (by show ∀ g r, getN d.gs g = some r → _; rw [eg]; exact f.ln)
  · refine ⟨⟨_, hp, ?_, key.1⟩, ?_⟩
    · have := so.sh h _ hp
      omega
    · have e : stand s d h l = standL h r l (d.setH h ⟨r.row, r.last, .waits, l⟩) h (g0 :: p0) := by
        unfold stand
        rw [hd, hp]
      rw [e]
      exact key.2
  · intro _
    show LK s w (hv (setN d.hs h _)) (gv d.gs)
    rw [eh, eg, ehv]
    refine f.co.lk.congr (fun n => ?_) fun _ => rfl
    by_cases e2 : n = h
    · rw [e2, setF_same, hv0]
      constructor <;> intro z <;> cases z
    · rw [setF_ne e2]
  · show RowI s (setN d.hs h _)
    rw [eh]
    exact f.ri.set hr fun rows hr => ⟨(rl rows hr).1, Int.le_of_lt (rl rows hr).2, fun _ => (rl rows hr).2, ll⟩
end
end NL
/-! a step keeps each one in one place, and goes through: letting go, leaving -/
namespace NL
open PySem L2 Evl
theorem pass_none {d : DS} {n : Str} {g : GR} (hn : getN d.gs n = some g) (hd : g.places.dropWhile (fun p => !p.2) = []) : (passLeft d n).2 = none ∧ (passLeft d n).1.gs = setN d.gs n { g with places := [] } := by
  unfold passLeft
  rw [hn]
  dsimp only
  rw [hd]
  exact ⟨rfl, rfl⟩
theorem pass_some {d : DS} {n : Str} {g : GR} {f : Str × Bool} {t : List (Str × Bool)} (hn : getN d.gs n = some g) (hd : g.places.dropWhile (fun p => !p.2) = f :: t) : (passLeft d n).2 = some f.1 ∧ (passLeft d n).1.gs = setN d.gs n { g with places := f :: t } := by
  unfold passLeft
  rw [hn]
  dsimp only
  rw [hd]
  exact ⟨rfl, rfl⟩
theorem setN_set {α : Type} : ∀ (xs : List (Str × α)) (n : Str) (v w : α), setN (setN xs n v) n w = setN xs n w
  | [], _, _, _ => rfl
  | (k, u) :: r, n, v, w => by
    simp only [setN, setN_set r]
    by_cases e : k = n
    · rw [if_pos e, if_pos e]
    · rw [if_neg e, if_neg e, if_neg e]
theorem no_true {ps : List (Str × Bool)} (hd : ps.dropWhile (fun p => !p.2) = []) (x : Str) : (x, true) ∉ ps := fun z => by
  have := mem_rest z
  rw [hd] at this
  cases this
theorem loose_of {d : DS} {m : Str} (h : d.loose m = false) : hv d.hs m ≠ some .loose := fun z => by
  obtain ⟨r, e, e2⟩ := hv_of z
  unfold DS.loose at h
  rw [e] at h
  simp [e2] at h
section
variable {s : Sta} {hk gk : List Str} {w : Str}
theorem let_loop (so : SOk s hk gk w) {N : Nat} (hN : N ≤ 1000) :
    ∀ (p : List Str) (d : DS) (m : Str), getN s.paths m = some p → Locked (gv d.gs) m p → JE s (hv d.hs) (gv d.gs) (some m) → (∀ g p' ps, p = g :: p' → gv d.gs g = some (some m, ps) → (act (hv d.hs) (gv d.gs) m ↔ (m, true) ∈ ps)) → (p = [] → ∃ ps, gv d.gs w = some (none, ps)) →
      (∀ n, hv d.hs n ≠ some .within) → RowI s d.hs → d.hs.map (·.1) = hk → d.gs.map (·.1) = gk → (∀ g r, getN d.gs g = some r → r.places.length ≤ N + 1) → (∀ g ∈ p.tail, ∀ r, getN d.gs g = some r → r.places.length ≤ N) → d.told.length + p.length * 1100 ≤ 58000 → d.firsts.length + p.length ≤ 4000 →
      letOk s d p ∧ (letGoL s d p).1.told.length ≤ 58000 ∧ ((letGoL s d p).2 = true → WF s hk gk w ⟨(letGoL s d p).1.hs, (letGoL s d p).1.gs⟩ (N + 1))
  | [], d, m, hp, lo, j, ia, bw, nw, ri, ks, gs, ln, lt, tl, fl => by
    refine ⟨trivial, by show d.told.length ≤ _; omega, fun _ => ⟨ks, gs, ⟨j.top (show up s m = none by unfold up; rw [hp]), Or.inl ⟨bw rfl, nw⟩⟩, ri, ln⟩⟩
  | g :: p, d, m, hp, lo, j, ia, bw, nw, ri, ks, gs, ln, lt, tl, fl => by
    obtain ⟨gin, hg'⟩ := so.st m g p hp
    obtain ⟨gr, hgr⟩ := key_some gs gin
    obtain ⟨b, hb⟩ := so.bd g gin
    have hu := up_of hp
    obtain ⟨⟨ps, hgv⟩, lo'⟩ := lo
    have hgv0 := gv_at hgr
    rw [hgv] at hgv0
    have ho : gr.holder = some m := by
      have := congrArg Prod.fst (Option.some.inj hgv0)
      exact this.symm
    have eps : ps = gr.places := congrArg Prod.snd (Option.some.inj hgv0)
    subst eps
    have iam := ia g p gr.places rfl hgv
    have gp : g ∉ p := path_self so hg'
    obtain ⟨f1, f2, f3, _, _⟩ := pass_facts hgr
    have l1 := ln g gr hgr
    rw [List.length_cons] at tl fl
    have hgn := j.gh hgv
    cases hd : gr.places.dropWhile (fun p => !p.2) with
    | nil =>
      obtain ⟨p1, p2⟩ := pass_none hgr hd
      obtain ⟨d1, o1, hpe⟩ : ∃ d1 o1, passLeft d g = (d1, o1) := ⟨_, _, rfl⟩
      rw [hpe] at f1 f2 f3 p1 p2
      dsimp only at f1 f2 f3 p1 p2
      subst p1
      have nt := no_true hd
      obtain ⟨j1, na1⟩ := j.bares (fun z => nt m (iam.mp z)) hu hgv nt
      have egs : (makeBare d1 g).gs = setN d.gs g ⟨none, 0, []⟩ := by
        show setN d1.gs g _ = _
        rw [p2, setN_set]
      have ehs : (makeBare d1 g).hs = d.hs := f1
      have egv : gv (makeBare d1 g).gs = setF (gv d.gs) g (none, []) := by rw [egs]; exact gv_set hgr
      have ih := let_loop so hN p (makeBare d1 g) g hg' (by rw [egv]; exact (locked_set gp).mpr lo') (by rw [ehs, egv]; exact j1) ?_ ?_ (by rw [ehs]; exact nw) (by rw [ehs]; exact ri) (by rw [ehs]; exact ks) (by rw [egs, keys_set]; exact gs) (by rw [egs]; exact ln_set ln (Nat.zero_le _)) ?_ ?_ ?_
      · refine ⟨⟨gr, b, hgr, hb, by omega, by omega, by omega, ?_⟩, ?_⟩
        · rw [hpe]
          exact ih.1
        · have e : letGoL s d (g :: p) = letGoL s (makeBare d1 g) p := by
            show (match passLeft d g with | (d1, none) => _ | (d1, some m) => _) = _
            rw [hpe]
          rw [e]
          exact ih.2
      · intro a p' qs ep ha
        rw [ehs, egv]
        rw [egv] at ha
        refine ⟨fun z => absurd z na1, fun z => ?_⟩
        have ne : a ≠ g := fun y => gp (by rw [ep, y]; exact List.mem_cons_self)
        rw [setF_ne ne] at ha
        exact absurd rfl ((j.plc a _ qs g ha z).2.2 (fun y => j.ac m g hu (Option.some.inj y))).2
      · intro ep
        subst ep
        rw [egv, ← so.tp g hg']
        exact ⟨_, setF_same⟩
      · intro a ha r hr
        have ain : a ∈ p := List.mem_of_mem_tail ha
        have ne9 : a ≠ g := fun y => gp (y ▸ ain)
        rw [egs, getN_other ne9] at hr
        exact lt a ain r hr
      · show (d1.told ++ _).length + _ ≤ _
        rw [List.length_append, List.length_singleton]
        omega
      · show d1.firsts.length + _ ≤ _
        omega
    | cons f t =>
      obtain ⟨p1, p2⟩ := pass_some hgr hd
      obtain ⟨d1, o1, hpe⟩ : ∃ d1 o1, passLeft d g = (d1, o1) := ⟨_, _, rfl⟩
      rw [hpe] at f1 f2 f3 p1 p2
      dsimp only at f1 f2 f3 p1 p2
      subst p1
      have hg1 : getN d1.gs g = some { gr with places := f :: t } := by rw [p2]; exact getN_same hgr
      have hon : ∀ why c, (handOn d1 g why c) = ((d1.setG g ⟨some f.1, c, t⟩).tell (e4 "handed" f.1 g why), f.1) := fun why c => by
        unfold handOn
        rw [hg1]
      have egs : ∀ why c, (handOn d1 g why c).1.gs = setN d.gs g ⟨some f.1, c, t⟩ := fun why c => by
        rw [hon]
        show setN d1.gs g _ = _
        rw [p2, setN_set]
      have egv : ∀ why c, gv (handOn d1 g why c).1.gs = setF (gv d.gs) g (some f.1, t) := fun why c => by
        rw [egs]
        exact gv_set hgr
      have ehs : ∀ why c, (handOn d1 g why c).1.hs = d.hs := fun why c => by rw [hon]; exact f1
      have tlen : t.length + 1 ≤ gr.places.length := by
        have := (List.dropWhile_suffix (l := gr.places) fun p => !p.2).length_le
        rw [hd, List.length_cons] at this
        exact this
      have hlt : d1.told.length ≤ 58000 := by omega
      cases hl : d1.loose f.1 with
      | true =>
        refine ⟨⟨gr, b, hgr, hb, by omega, by omega, by omega, ?_⟩, ?_, ?_⟩
        · rw [hpe]
          intro z
          rw [hl] at z
          cases z
        · show (match passLeft d g with | (d1, none) => _ | (d1, some m) => _ : DS × Bool).1.told.length ≤ _
          rw [hpe]
          simp only [hl, if_pos]
          exact hlt
        · show (match passLeft d g with | (d1, none) => _ | (d1, some m) => _ : DS × Bool).2 = true → _
          rw [hpe]
          simp only [hl, if_pos]
          intro z
          cases z
      | false =>
        have nl : hv d.hs f.1 ≠ some .loose := by
          rw [← f1]
          exact loose_of hl
        have j1 := j.hands hu hgv iam hd nl
        have key : setF (gv d.gs) g (some f.1, t) g = some (some f.1, t) := setF_same
        obtain ⟨uf, cf⟩ := j1.hold g t f.1 key
        obtain ⟨af, _⟩ := cf (by simp)
        obtain ⟨pf, hpf⟩ := of_up uf
        have epf := (so.st f.1 g pf hpf).2
        rw [hg'] at epf
        have epf := Option.some.inj epf
        subst epf
        have lo1 : Locked (setF (gv d.gs) g (some f.1, t)) f.1 (g :: p) := ⟨⟨t, setF_same⟩, (locked_set gp).mpr lo'⟩
        have shf := so.sh f.1 _ hpf
        obtain ⟨n, z, dn, hn, ⟨y, hy, yo⟩, hz2, hz3, hz4⟩ := down_of so j1 (11 - (g :: p).length) af hpf (by omega)
        obtain ⟨qz, hqz, lqz⟩ := hz4 (g :: p) lo1 hpf
        have zw : hv d.hs z = some .waits := by
          have nlz : hv d.hs z ≠ some .loose := by
            rcases hz2 with e | e
            · rw [e]
              exact nl
            · exact e
          have nwz := nw z
          rw [hy] at nlz nwz ⊢
          cases y with
          | out => exact absurd rfl yo
          | loose => exact absurd rfl nlz
          | within => exact absurd rfl nwz
          | waits => rfl
        have le : n ≤ FU := by show n ≤ 64; omega
        by_cases hc : (p.isEmpty || isBelow s d1 g) = true
        · have e : letGoL s d (g :: p) = (handNear d1 g p.isEmpty, true) := by
            show (match passLeft d g with | (d1, none) => _ | (d1, some m) => _) = _
            rw [hpe]
            simp only [hl, hc, if_pos]
            rfl
          rw [e]
          have dnc : ∀ c, DownTo (hv (handOn d1 g "near" c).1.hs) (gv (handOn d1 g "near" c).1.gs) f.1 n z := fun c => by
            rw [ehs, egv]
            exact dn
          refine ⟨⟨gr, b, hgr, hb, by omega, by omega, by omega, ?_⟩, ?_⟩
          · rw [hpe]
            intro _
            rw [if_pos hc]
            exact fun c => down_ok (dnc c) le
          · obtain ⟨c, ec⟩ : ∃ c, handNear d1 g p.isEmpty = giveLock FU (handOn d1 g "near" c).1 f.1 := ⟨_, by
              unfold handNear
              dsimp only
              rw [show (handOn d1 g "near" (if p.isEmpty then countOf d1 g else countOf d1 g + 1)).2 = f.1 by rw [hon]]⟩
            obtain ⟨a1, a2, a3, a4, rz, a5, a6⟩ := give_eff (dnc c) le
            dsimp only
            rw [ec]
            refine ⟨?_, fun _ => ⟨?_, ?_, ?_, ?_, ?_⟩⟩
            · rw [a4, hon]
              show (d1.told ++ _).length + 1 ≤ _
              rw [List.length_append, List.length_singleton]
              omega
            · show (giveLock FU (handOn d1 g "near" c).1 f.1).hs.map (·.1) = hk
              rw [a6, keys_set, ehs]
              exact ks
            · show (giveLock FU (handOn d1 g "near" c).1 f.1).gs.map (·.1) = gk
              rw [a2, egs, keys_set]
              exact gs
            · show Core s w (hv (giveLock FU (handOn d1 g "near" c).1 f.1).hs) (gv (giveLock FU (handOn d1 g "near" c).1 f.1).gs)
              rw [a1, a6, hv_set a5, ehs, egv]
              by_cases ez : z = f.1
              · exact core_in j1 nw zw hqz lqz (by rw [ez]; exact setF_same)
              · obtain ⟨g9, ps9, e9⟩ := hz3 ez
                exact core_in j1 nw zw hqz lqz e9
            · show RowI s (giveLock FU (handOn d1 g "near" c).1 f.1).hs
              rw [a6]
              rw [ehs] at a5 ⊢
              refine ri.set a5 fun rows hr => ?_
              have hh := hv_at a5
              rw [zw] at hh
              have := ri z rz rows a5 hr
              have lt9 := this.2.2.1 (Or.inr (Option.some.inj hh).symm)
              exact ⟨by show 0 ≤ rz.row + 1; omega, by show rz.row + 1 ≤ _; omega, (fun z => by rcases z with z | z <;> cases z), fun _ z => by cases z⟩
            · show ∀ g' r', getN (giveLock FU (handOn d1 g "near" c).1 f.1).gs g' = some r' → _
              refine ln_gv a1 ?_
              rw [egs]
              exact ln_set ln (by show t.length ≤ _; omega)
        · have hc' : (p.isEmpty || isBelow s d1 g) = false := by
            cases z : (p.isEmpty || isBelow s d1 g) with
            | false => rfl
            | true => exact absurd z hc
          cases p with
          | nil => simp at hc'
          | cons a pp =>
            have e : letGoL s d (g :: a :: pp) = letGoL s (handOver d1 g a) (a :: pp) := by
              show (match passLeft d g with | (d1, none) => _ | (d1, some m) => _) = _
              rw [hpe]
              simp only [hl, hc']
              rfl
            rw [e]
            obtain ⟨⟨qs, hav⟩, lo2⟩ := lo'
            have ua : up s g = some a := up_of hg'
            have ne : a ≠ g := fun y => gp (by rw [y]; exact List.mem_cons_self)
            have ha1 : setF (gv d.gs) g (some f.1, t) a = some (some g, qs) := by rw [setF_ne ne]; exact hav
            obtain ⟨j2, ia2⟩ := j1.overs ua ha1 hgn
            obtain ⟨ar, har, har2, har3⟩ := gv_of hav
            subst har3
            have har1 : getN (handOn d1 g "over" 0).1.gs a = some ar := by rw [egs, getN_other ne]; exact har
            have eov : handOver d1 g a = (handOn d1 g "over" 0).1.setG a { ar with places := ar.places ++ [(g, true)] } := by
              unfold handOver addPlace
              rw [har1]
            have ogs : (handOver d1 g a).gs = setN (setN d.gs g ⟨some f.1, 0, t⟩) a { ar with places := ar.places ++ [(g, true)] } := by
              rw [eov]
              show setN (handOn d1 g "over" 0).1.gs a _ = _
              rw [egs]
            have ohs : (handOver d1 g a).hs = d.hs := by
              rw [eov]
              exact ehs "over" 0
            have ogv : gv (handOver d1 g a).gs = setF (setF (gv d.gs) g (some f.1, t)) a (some g, ar.places ++ [(g, true)]) := by
              rw [ogs, gv_set (g := ar) (by rw [getN_other ne]; exact har), gv_set hgr, har2]
            have la := lt a (by simp) ar har
            have ap2 : a ∉ pp := path_self so (so.st g a pp hg').2
            have gp2 : g ∉ pp := fun y => gp (List.mem_cons_of_mem _ y)
            have ih := let_loop so hN (a :: pp) (handOver d1 g a) g hg' (by rw [ogv]; exact ⟨⟨_, setF_same⟩, (locked_set ap2).mpr ((locked_set gp2).mpr lo2)⟩) (by rw [ohs, ogv]; exact j2) ?_ (fun y => by cases y) (by rw [ohs]; exact nw) (by rw [ohs]; exact ri) (by rw [ohs]; exact ks) (by rw [ogs, keys_set, keys_set]; exact gs) ?_ ?_ ?_ ?_
            · refine ⟨⟨gr, b, hgr, hb, by omega, by omega, by omega, ?_⟩, ih.2⟩
              rw [hpe]
              intro _
              rw [if_neg (by rw [hc']; simp)]
              refine ⟨Ne.symm ne, ⟨ar, ?_, by omega⟩, ih.1⟩
              show getN d1.gs a = _
              rw [p2, getN_other ne]
              exact har
            · intro a' p' qs' ep ha'
              cases ep
              rw [ohs, ogv]
              rw [ogv, setF_same] at ha'
              have := congrArg Prod.snd (Option.some.inj ha')
              dsimp only at this
              rw [← this]
              exact ia2
            · rw [ogs]
              refine ln_set (ln_set ln (by show t.length ≤ _; omega)) ?_
              show (ar.places ++ _).length ≤ _
              rw [List.length_append, List.length_singleton]
              omega
            · intro x hx r hr
              have x1 : x ∈ pp := hx
              have n1 : x ≠ a := fun y => ap2 (y ▸ x1)
              have n2 : x ≠ g := fun y => gp2 (y ▸ x1)
              rw [ogs, getN_other n1, getN_other n2] at hr
              exact lt x (List.mem_cons_of_mem _ x1) r hr
            · rw [eov, hon]
              show (d1.told ++ _).length + _ ≤ _
              rw [List.length_append, List.length_singleton]
              simp only [List.length_cons] at tl ⊢
              omega
            · rw [eov, hon]
              show d1.firsts.length + _ ≤ _
              simp only [List.length_cons] at fl ⊢
              omega
end
end NL
/-! a step keeps each one in one place, and goes through -/
namespace NL
open PySem L2 Evl
section
variable {s : Sta} {hk gk : List Str} {w : Str}
theorem WF.mono {x : SH} {N M : Nat} (f : WF s hk gk w x N) (h : N ≤ M) : WF s hk gk w x M := ⟨f.ks, f.gs, f.co, f.ri, fun g r hg => Nat.le_trans (f.ln g r hg) h⟩
theorem leave_loop (so : SOk s hk gk w) {N : Nat} (hN : N ≤ 1000) {m0 : Str} {p0 : List Str} (hp0 : getN s.paths m0 = some p0) (w0 : w ∈ p0) :
    ∀ (p : List Str) (d : DS) (m : Str), getN s.paths m = some p → m ∉ m0 :: p0 → Locked (gv d.gs) m0 p0 → hv d.hs m0 = some .within → (∀ n, hv d.hs n = some .within → n = m0) → JE s (hv d.hs) (gv d.gs) (some m) → ¬ act (hv d.hs) (gv d.gs) m → (∀ g ps, gv d.gs g = some (some m, ps) → (m, true) ∉ ps) →
      RowI s d.hs → d.hs.map (·.1) = hk → d.gs.map (·.1) = gk → (∀ g r, getN d.gs g = some r → r.places.length ≤ N) → d.told.length + p.length * 1100 ≤ 58000 → d.firsts.length + p.length ≤ 4000 →
      leaveOk s d m p ∧ (leaveL d m p).1.told.length ≤ 58000 ∧ ((leaveL d m p).2 = true → WF s hk gk w ⟨(leaveL d m p).1.hs, (leaveL d m p).1.gs⟩ N)
  | [], d, m, hp, mo, lo, h0, hu0, j, na, ni, ri, ks, gs, ln, tl, fl => by
    rw [so.tp m hp] at mo
    exact absurd (List.mem_cons_of_mem _ w0) mo
  | g :: p, d, m, hp, mo, lo, h0, hu0, j, na, ni, ri, ks, gs, ln, tl, fl => by
    obtain ⟨gin, hg'⟩ := so.st m g p hp
    obtain ⟨gr, hgr⟩ := key_some gs gin
    have hu := up_of hp
    have hgv := gv_at hgr
    have l1 := ln g gr hgr
    have hgn := j.gh hgv
    rw [List.length_cons] at tl fl
    by_cases ho : gr.holder = some m
    · rw [ho] at hgv
      have gp0 : g ∉ p0 := fun z => by
        obtain ⟨x, ps, e, hx⟩ := locked_some lo z
        rw [hgv] at e
        cases e
        exact mo hx
      have gm0 : g ∉ m0 :: p0 := fun z => by
        rcases List.mem_cons.mp z with e | e
        · rw [e, h0] at hgn
          cases hgn
        · exact gp0 e
      have hgr' : getN (d.tell (e2 "left" m)).gs g = some gr := hgr
      have nm := ni g _ hgv
      obtain ⟨f1, f2, f3, _, _⟩ := pass_facts hgr'
      rw [tell_len] at f2
      have el : leaveL d m (g :: p) = (match passLeft (d.tell (e2 "left" m)) g with
          | (d1, none) => leaveL (makeBare d1 g) g p
          | (d1, some f) => if d1.loose f then (d1, false) else ((handOn d1 g "left" gr.count).1, true)) := by
        show (match getN d.gs g with | none => _ | some r => _) = _
        rw [hgr]
        dsimp only
        rw [if_neg (fun z => z ho)]
        all_goals rfl
      rw [el]
      cases hd : gr.places.dropWhile (fun p => !p.2) with
      | nil =>
        obtain ⟨p1, p2⟩ := pass_none hgr' hd
        obtain ⟨d1, o1, hpe⟩ : ∃ d1 o1, passLeft (d.tell (e2 "left" m)) g = (d1, o1) := ⟨_, _, rfl⟩
        rw [hpe] at f1 f2 f3 p1 p2
        dsimp only at f1 f2 f3 p1 p2
        subst p1
        have nt := no_true hd
        obtain ⟨j1, na1⟩ := j.bares na hu hgv nt
        have egs : (makeBare d1 g).gs = setN d.gs g ⟨none, 0, []⟩ := by
          show setN d1.gs g _ = _
          rw [p2, setN_set]
          rfl
        have ehs : (makeBare d1 g).hs = d.hs := f1
        have egv : gv (makeBare d1 g).gs = setF (gv d.gs) g (none, []) := by rw [egs]; exact gv_set hgr
        have ih := leave_loop so hN hp0 w0 p (makeBare d1 g) g hg' gm0 (by rw [egv]; exact (locked_set gp0).mpr lo) (by rw [ehs]; exact h0) (by rw [ehs]; exact hu0) (by rw [ehs, egv]; exact j1) (by rw [ehs, egv]; exact na1) ?_ (by rw [ehs]; exact ri) (by rw [ehs]; exact ks) (by rw [egs, keys_set]; exact gs) (by rw [egs]; exact ln_set ln (Nat.zero_le _)) ?_ ?_
        · refine ⟨⟨hp, gr, hgr, by omega, by omega, by omega, fun _ => ?_⟩, ?_⟩
          · rw [hpe]
            exact ih.1
          · rw [hpe]
            exact ih.2
        · intro a qs ha z
          rw [egv] at ha
          by_cases ne : a = g
          · rw [ne, setF_same] at ha
            cases ha
          · rw [setF_ne ne] at ha
            exact ((j.plc a _ qs g ha z).2.2 (fun y => j.ac m g hu (Option.some.inj y))).2 rfl
        · show (d1.told ++ _).length + _ ≤ _
          rw [List.length_append, List.length_singleton]
          omega
        · show d1.firsts.length + _ ≤ _
          have f3' : d1.firsts.length ≤ d.firsts.length + 1 := f3
          omega
      | cons f t =>
        obtain ⟨p1, p2⟩ := pass_some hgr' hd
        obtain ⟨d1, o1, hpe⟩ : ∃ d1 o1, passLeft (d.tell (e2 "left" m)) g = (d1, o1) := ⟨_, _, rfl⟩
        rw [hpe] at f1 f2 f3 p1 p2
        dsimp only at f1 f2 f3 p1 p2
        subst p1
        have tlen : t.length + 1 ≤ gr.places.length := by
          have := (List.dropWhile_suffix (l := gr.places) fun p => !p.2).length_le
          rw [hd, List.length_cons] at this
          exact this
        refine ⟨⟨hp, gr, hgr, by omega, by omega, by omega, fun _ => by rw [hpe]; trivial⟩, ?_⟩
        rw [hpe]
        dsimp only
        have hg1 : getN d1.gs g = some { gr with places := f :: t } := by rw [p2]; exact getN_same hgr
        have hon : (handOn d1 g "left" gr.count) = ((d1.setG g ⟨some f.1, gr.count, t⟩).tell (e4 "handed" f.1 g "left"), f.1) := by
          unfold handOn
          rw [hg1]
        have egs : (handOn d1 g "left" gr.count).1.gs = setN d.gs g ⟨some f.1, gr.count, t⟩ := by
          rw [hon]
          show setN d1.gs g _ = _
          rw [p2, setN_set]
          rfl
        have egv : gv (handOn d1 g "left" gr.count).1.gs = setF (gv d.gs) g (some f.1, t) := by
          rw [egs]
          exact gv_set hgr
        have ehs : (handOn d1 g "left" gr.count).1.hs = d.hs := by rw [hon]; exact f1
        cases hl : d1.loose f.1 with
        | true =>
          rw [if_pos rfl]
          exact ⟨by show d1.told.length ≤ _; omega, fun z => by cases z⟩
        | false =>
          rw [if_neg (by simp)]
          have nl : hv d.hs f.1 ≠ some .loose := by
            have := loose_of hl
            rw [f1] at this
            exact this
          have j1 := j.hands hu hgv ⟨fun z => absurd z na, fun z => absurd z nm⟩ hd nl
          refine ⟨?_, fun _ => ⟨?_, ?_, ?_, ?_, ?_⟩⟩
          · dsimp only
            rw [hon]
            show (d1.told ++ _).length ≤ _
            rw [List.length_append, List.length_singleton]
            omega
          · show (handOn d1 g "left" gr.count).1.hs.map (·.1) = hk
            rw [ehs]
            exact ks
          · show (handOn d1 g "left" gr.count).1.gs.map (·.1) = gk
            rw [egs, keys_set]
            exact gs
          · show Core s w (hv (handOn d1 g "left" gr.count).1.hs) (gv (handOn d1 g "left" gr.count).1.gs)
            rw [ehs, egv]
            exact ⟨j1, Or.inr ⟨m0, p0, h0, hp0, (locked_set gp0).mpr lo, hu0⟩⟩
          · show RowI s (handOn d1 g "left" gr.count).1.hs
            rw [ehs]
            exact ri
          · show ∀ g' r', getN (handOn d1 g "left" gr.count).1.gs g' = some r' → _
            rw [egs]
            exact ln_set ln (by show t.length ≤ _; omega)
    · have el : leaveL d m (g :: p) = ((d.tell (e2 "left" m)).setG g { gr with places := without gr.places m }, true) := by
        show (match getN d.gs g with | none => _ | some r => _) = _
        rw [hgr]
        dsimp only
        rw [if_pos ho]
      rw [el]
      refine ⟨⟨hp, gr, hgr, by omega, by omega, by omega, fun z => absurd z ho⟩, ?_, fun _ => ?_⟩
      · show (d.told ++ _).length ≤ _
        rw [List.length_append, List.length_singleton]
        omega
      · have j1 := j.lefts na hu hgv ho
        have egv : gv (setN d.gs g { gr with places := without gr.places m }) = setF (gv d.gs) g (gr.holder, NL.without gr.places m) := gv_set hgr
        refine ⟨ks, by rw [← gs]; exact keys_set _ _ _, ?_, ri, ln_set ln ?_⟩
        · show Core s w (hv d.hs) (gv (setN d.gs g _))
          rw [egv]
          exact ⟨j1, Or.inr ⟨m0, p0, h0, hp0, locked_congr (kh_set hgv) lo, hu0⟩⟩
        · show (NL.without gr.places m).length ≤ _
          unfold NL.without
          rw [List.length_map]
          exact l1
theorem act_up (so : SOk s hk gk w) {h : HF} {k : GF} (j : JE s h k none) (hkk : ∀ g ∈ gk, ∃ v, k g = some v) : ∀ {p : List Str} {m : Str}, getN s.paths m = some p → act h k m → ∀ x ∈ p, act h k x
  | [], _, _, _, x, hx => by cases hx
  | g :: p, m, hp, a, x, hx => by
    obtain ⟨gin, hg'⟩ := so.st m g p hp
    obtain ⟨⟨o, ps⟩, hg⟩ := hkk g gin
    have ag : act h k g := by
      cases o with
      | some o => exact Or.inr ⟨o, ps, hg⟩
      | none =>
        have := j.bare g ps hg
        subst this
        rcases j.has m g _ _ (up_of hp) a (by simp) hg with z | z <;> cases z
    rcases List.mem_cons.mp hx with z | z
    · rw [z]
      exact ag
    · exact act_up so j hkk hg' ag x z
theorem stand_len (hand : Str) (r : HR) (l : Option Int) : ∀ (p : List Str) (d : DS) (m : Str), (standL hand r l d m p).told.length ≤ d.told.length + p.length + 1
  | [], d, m => by
    show (giveLock FU d m).told.length ≤ _
    exact give_len _ _ _
  | g :: p, d, m => by
    show (match getN d.gs g with | some gr => _ | none => _ : DS).told.length ≤ _
    cases z : getN d.gs g with
    | none =>
      show d.told.length ≤ _
      omega
    | some gr =>
      have ea : (addPlace d m g).told = d.told := by
        unfold addPlace
        rw [z]
        rfl
      dsimp only
      rw [List.length_cons]
      split
      · split
        · show (((addPlace d m g).tell _).told).length ≤ _
          rw [tell_len, ea]
          omega
        · rw [tell_len, ea]
          omega
      · refine Nat.le_trans (stand_len hand r l p _ _) ?_
        rw [tell_len]
        show d.told.length + 1 + _ + _ ≤ _
        omega
variable {x : SH} {N : Nat} {h : Str} {r : HR}
theorem let_wf (so : SOk s hk gk w) (hN : N ≤ 1000) (f : WF s hk gk w x N) (hr : getN x.hs h = some r) (ho : r.how = .within) (rl : ∀ rows, getN s.progs h = some rows → 0 ≤ r.row ∧ r.row < (rows.length : Int)) :
    lOk s (draftOf x) h r ∧ (letGo s (draftOf x) h).1.told.length ≤ 58000 ∧ ((letGo s (draftOf x) h).2 = true → WF s hk gk w ⟨(letGo s (draftOf x) h).1.hs, (letGo s (draftOf x) h).1.gs⟩ (N + 1)) := by
  have hin := some_key f.ks hr
  obtain ⟨g0, p0, hp⟩ := so.ph h hin
  have hv0 : hv x.hs h = some .within := by rw [hv_at hr, ho]
  have sh := so.sh h _ hp
  rw [List.length_cons] at sh
  rcases f.co.lk with ⟨_, b⟩ | ⟨m1, p1, a1, b1, c1, d1⟩
  · exact absurd hv0 (b h)
  have e := d1 h hv0
  subst e
  rw [hp] at b1
  have b1 := Option.some.inj b1
  subst b1
  obtain ⟨j1, na⟩ := f.co.je.outs hv0
  have ehv : hv (setN x.hs h ⟨r.row + 1, 0, .out, none⟩) = setF (hv x.hs) h .out := hv_set hr
  obtain ⟨ps0, hg0⟩ := c1.1
  have key := let_loop so hN (g0 :: p0) (((draftOf x).setH h ⟨r.row + 1, 0, .out, none⟩).tell (e2 "let" h)) h hp c1 (by show JE s (hv (setN x.hs h _)) (gv x.gs) _; rw [ehv]; exact j1) ?_ (fun z => by cases z) ?_ ?_ (by rw [← f.ks]; exact keys_set _ _ _) f.gs (fun g r hg => Nat.le_succ_of_le (f.ln g r hg)) (fun g _ r hg => f.ln g r hg) ?_ ?_
  · have e : letGo s (draftOf x) h = letGoL s (((draftOf x).setH h ⟨r.row + 1, 0, .out, none⟩).tell (e2 "let" h)) (g0 :: p0) := by
      unfold NL.letGo
      rw [show getN (draftOf x).hs h = some r from hr, hp]
    rw [e]
    exact ⟨⟨_, hp, by simp, by rw [List.length_cons]; omega, key.1⟩, key.2⟩
  · intro g p' ps _ hg
    show act (hv (setN x.hs h _)) (gv x.gs) h ↔ _
    rw [ehv]
    exact ⟨fun z => absurd z na, fun z => absurd z (f.co.je.noplace hg0 g _ ps hg)⟩
  · intro n hn
    have hn : hv (setN x.hs h ⟨r.row + 1, 0, .out, none⟩) n = some .within := hn
    rw [ehv] at hn
    by_cases e : n = h
    · rw [e, setF_same] at hn
      cases hn
    · rw [setF_ne e] at hn
      exact e (d1 n hn)
  · exact f.ri.set hr fun rows hr => ⟨by show 0 ≤ r.row + 1; have := rl rows hr; omega, by show r.row + 1 ≤ _; have := rl rows hr; omega, (fun z => by rcases z with z | z <;> cases z), fun _ z => by cases z⟩
  · show ([] ++ [e2 "let" h] : List PyData).length + _ ≤ _
    rw [List.length_cons]
    simp only [List.nil_append, List.length_cons, List.length_nil]
    omega
  · show ([] : List Str).length + _ ≤ _
    simp only [List.length_cons, List.length_nil]
    omega
theorem leave_wf (so : SOk s hk gk w) (hN : N ≤ 1000) (f : WF s hk gk w x N) (hr : getN x.hs h = some r) (ho : r.how = .waits) :
    vOk s (draftOf x) h r ∧ (leave s (draftOf x) h).1.told.length ≤ 58000 ∧ ((leave s (draftOf x) h).2 = true → WF s hk gk w ⟨(leave s (draftOf x) h).1.hs, (leave s (draftOf x) h).1.gs⟩ N) := by
  have hin := some_key f.ks hr
  obtain ⟨g0, p0, hp⟩ := so.ph h hin
  have hv0 : hv x.hs h = some .waits := by rw [hv_at hr, ho]
  have sh := so.sh h _ hp
  rw [List.length_cons] at sh
  have ah : act (hv x.hs) (gv x.gs) h := Or.inl ⟨_, hv0, by decide⟩
  have aw := act_up so f.co.je (fun g hg => by
    obtain ⟨v, hv⟩ := key_some f.gs hg
    exact ⟨_, gv_at hv⟩) hp ah w (path_last so hp (by simp)).2
  rcases f.co.lk with ⟨⟨ps, a⟩, b⟩ | ⟨m1, p1, a1, b1, c1, d1⟩
  · exfalso
    rcases aw with ⟨y, hy, _⟩ | ⟨o, qs, ho⟩
    · rw [f.co.je.gh a] at hy
      cases hy
    · rw [a] at ho
      cases ho
  obtain ⟨r1, hr1, _⟩ := hv_of a1
  obtain ⟨g1, q1, hp1⟩ := so.ph m1 (some_key f.ks hr1)
  have wp1 : w ∈ p1 := by
    refine (path_last so b1 ?_).2
    rw [hp1] at b1
    cases b1
    simp
  obtain ⟨j1, na⟩ := f.co.je.outs hv0
  have ehv : hv (setN x.hs h ⟨r.row + 1, 0, .out, none⟩) = setF (hv x.hs) h .out := hv_set hr
  have hm : h ≠ m1 := fun z => by
    rw [z, a1] at hv0
    cases hv0
  have key := leave_loop so hN b1 wp1 (g0 :: p0) ((draftOf x).setH h ⟨r.row + 1, 0, .out, none⟩) h hp ?_ c1 ?_ ?_ (by show JE s (hv (setN x.hs h _)) (gv x.gs) _; rw [ehv]; exact j1) (by show ¬ act (hv (setN x.hs h _)) (gv x.gs) h; rw [ehv]; exact na) (fun g ps hg => f.co.je.noplace hg g _ ps hg) ?_ (by rw [← f.ks]; exact keys_set _ _ _) f.gs f.ln ?_ ?_
  · have e : leave s (draftOf x) h = leaveL ((draftOf x).setH h ⟨r.row + 1, 0, .out, none⟩) h (g0 :: p0) := by
      unfold leave
      rw [show getN (draftOf x).hs h = some r from hr, hp]
    rw [e]
    exact ⟨⟨_, hp, by rw [List.length_cons]; omega, key.1⟩, key.2⟩
  · intro z
    rcases List.mem_cons.mp z with e | e
    · exact hm e
    · exact so.dj h hin (path_gk so b1 h e)
  · show hv (setN x.hs h _) m1 = _
    rw [ehv, setF_ne (Ne.symm hm)]
    exact a1
  · intro n hn
    have hn : hv (setN x.hs h ⟨r.row + 1, 0, .out, none⟩) n = some .within := hn
    rw [ehv] at hn
    by_cases e : n = h
    · rw [e, setF_same] at hn
      cases hn
    · rw [setF_ne e] at hn
      exact d1 n hn
  · refine f.ri.set hr fun rows hp => ?_
    have := f.ri h r rows hr hp
    have lt := this.2.2.1 (Or.inr ho)
    exact ⟨by show 0 ≤ r.row + 1; omega, by show r.row + 1 ≤ _; omega, (fun z => by rcases z with z | z <;> cases z), fun _ z => by cases z⟩
  · show ([] : List PyData).length + _ ≤ _
    simp only [List.length_cons, List.length_nil]
    omega
  · show ([] : List Str).length + _ ≤ _
    simp only [List.length_cons, List.length_nil]
    omega
/-- a hand's row or count changes, its how stays -/
theorem same_wf (f : WF s hk gk w x N) (hr : getN x.hs h = some r) {r' : HR} (e : r'.how = r.how) (rr : ∀ rows, getN s.progs h = some rows → 0 ≤ r'.row ∧ r'.row ≤ (rows.length : Int) ∧ (r'.how = .loose ∨ r'.how = .waits → r'.row < (rows.length : Int)) ∧ ∀ l, r'.looks = some l → 0 ≤ l) : WF s hk gk w ⟨setN x.hs h r', x.gs⟩ N := by
  refine ⟨by rw [← f.ks]; exact keys_set _ _ _, f.gs, ?_, f.ri.set hr rr, f.ln⟩
  show Core s w (hv (setN x.hs h r')) (gv x.gs)
  rw [hv_set hr, e, setF_id (hv_at hr)]
  exact f.co
theorem act_wf (so : SOk s hk gk w) (hN : N ≤ 1000) (f : WF s hk gk w x N) (hr : getN x.hs h = some r) (ho : r.how = .out ∨ r.how = .within) {rows : List Row} {row : Row} (hp : getN s.progs h = some rows) (hrow : rows[r.row.toNat]? = some row) :
    actOk s (draftOf x) h r row ∧ (doAct s (draftOf x) h r row).1.told.length ≤ 58000 ∧ ((doAct s (draftOf x) h r row).2 = none → WF s hk gk w ⟨(doAct s (draftOf x) h r row).1.hs, (doAct s (draftOf x) h r row).1.gs⟩ (N + 1)) := by
  have hin := some_key f.ks hr
  obtain ⟨rows', hp', hlen, hgo⟩ := so.pr h hin
  rw [hp] at hp'
  have hp' := Option.some.inj hp'
  subst hp'
  have mem : row ∈ rows := List.mem_of_getElem? hrow
  have ri := f.ri h r rows hr hp
  have lt : r.row.toNat < rows.length := (List.getElem?_eq_some_iff.mp hrow).1
  have rlt : r.row < (rows.length : Int) := by omega
  have rl : ∀ rows', getN s.progs h = some rows' → 0 ≤ r.row ∧ r.row < (rows'.length : Int) := fun rows' z => by
    rw [hp] at z
    cases z
    exact ⟨ri.1, rlt⟩
  have nlw : ∀ {q : Prop}, (r.how = .loose ∨ r.how = .waits) → q := fun z => by
    rcases ho with e | e <;> rw [e] at z <;> rcases z with z | z <;> cases z
  obtain ⟨g0, p0, hpa⟩ := so.ph h hin
  have sh := so.sh h _ hpa
  have gd : getN (draftOf x).hs h = some r := hr
  have fin : ∀ (last : Int) (e : PyData), (finish (draftOf x) h last e).told.length ≤ 58000 ∧ WF s hk gk w ⟨(finish (draftOf x) h last e).hs, (finish (draftOf x) h last e).gs⟩ (N + 1) := fun last e => by
    have ef : NL.finish (draftOf x) h last e = ((draftOf x).setH h ⟨r.row + 1, last, r.how, r.looks⟩).tell e := by
      unfold NL.finish
      rw [gd]
    rw [ef]
    refine ⟨?_, (same_wf f hr (r' := ⟨r.row + 1, last, r.how, r.looks⟩) rfl fun rows' z => ?_).mono (Nat.le_succ N)⟩
    · rw [tell_len]
      show ([] : List PyData).length + 1 ≤ _
      simp
    · rw [hp] at z
      cases z
      exact ⟨by show 0 ≤ r.row + 1; omega, by show r.row + 1 ≤ _; omega, fun z => nlw z, ri.2.2.2⟩
  have goes : ∀ (n : Int), 0 ≤ n → n ≤ (rows.length : Int) → (goTo (draftOf x) h n).told.length ≤ 58000 ∧ WF s hk gk w ⟨(goTo (draftOf x) h n).hs, (goTo (draftOf x) h n).gs⟩ (N + 1) := fun n n0 n1 => by
    have ef : goTo (draftOf x) h n = ((draftOf x).setH h ⟨n, r.last, r.how, r.looks⟩).tell (e3i "went" h n) := by
      unfold goTo
      rw [gd]
    rw [ef]
    refine ⟨?_, (same_wf f hr (r' := ⟨n, r.last, r.how, r.looks⟩) rfl fun rows' z => ?_).mono (Nat.le_succ N)⟩
    · rw [tell_len]
      show ([] : List PyData).length + 1 ≤ _
      simp
    · rw [hp] at z
      cases z
      exact ⟨n0, n1, fun z => nlw z, ri.2.2.2⟩
  have stn : ∀ l : Option Int, r.how = .out → (∀ i, l = some i → 0 ≤ i) → sOk s (draftOf x) h r l ∧ (stand s (draftOf x) h l).told.length ≤ 58000 ∧ WF s hk gk w ⟨(stand s (draftOf x) h l).hs, (stand s (draftOf x) h l).gs⟩ (N + 1) := fun l eo hl => by
    obtain ⟨a, b⟩ := stand_wf so (by omega) f (d := draftOf x) rfl rfl hr eo rl hl
    refine ⟨a, ?_, b⟩
    unfold stand
    rw [gd, hpa]
    dsimp only
    refine Nat.le_trans (stand_len h r l _ _ _) ?_
    show ([] : List PyData).length + _ + 1 ≤ _
    rw [List.length_nil]
    omega
  cases row with
  | take l =>
    by_cases e : r.how = .within
    · refine ⟨fun z => absurd e z, ?_⟩
      simp only [doAct, if_pos e]
      exact ⟨(fin _ _).1, fun _ => (fin _ _).2⟩
    · have eo : r.how = .out := ho.resolve_right e
      obtain ⟨a, b, c⟩ := stn l eo fun i ei => so.lk h hin rows hp i (by rw [← ei]; exact mem)
      refine ⟨fun _ => a, ?_⟩
      simp only [doAct, if_neg e]
      exact ⟨b, fun _ => c⟩
  | tri =>
    obtain ⟨pl, _⟩ := path_last so hpa (by simp)
    obtain ⟨gw, hgw⟩ := key_some f.gs so.wg
    have first : ∃ p g, getN s.paths h = some p ∧ p ≠ [] ∧ getN (draftOf x).gs (p.getLastD h) = some g := ⟨_, gw, hpa, by simp, by rw [pl]; exact hgw⟩
    by_cases e : r.how = .within
    · refine ⟨⟨first, fun z => absurd e z⟩, ?_⟩
      simp only [doAct, if_pos e]
      exact ⟨(fin _ _).1, fun _ => (fin _ _).2⟩
    · have eo : r.how = .out := ho.resolve_right e
      obtain ⟨a, b, c⟩ := stn none eo fun i ei => by cases ei
      refine ⟨⟨first, fun _ _ => a⟩, ?_⟩
      simp only [doAct, if_neg e]
      split
      · exact ⟨b, fun _ => c⟩
      · exact ⟨(fin _ _).1, fun _ => (fin _ _).2⟩
  | let_ =>
    by_cases e : r.how = .within
    · obtain ⟨a, b, c⟩ := let_wf so hN f hr e rl
      refine ⟨fun _ => a, ?_⟩
      simp only [doAct, if_pos e]
      refine ⟨b, fun z => c ?_⟩
      split at z
      · assumption
      · cases z
    · refine ⟨fun z => absurd z e, ?_⟩
      simp only [doAct, if_neg e]
      exact ⟨(fin _ _).1, fun _ => (fin _ _).2⟩
  | say n => exact ⟨trivial, (fin _ _).1, fun _ => (fin _ _).2⟩
  | goto n =>
    obtain ⟨a, b⟩ := hgo n (Or.inl mem)
    exact ⟨trivial, (goes n a b).1, fun _ => (goes n a b).2⟩
  | iff c n =>
    obtain ⟨a, b⟩ := hgo n (Or.inr ⟨c, mem⟩)
    refine ⟨trivial, ?_⟩
    simp only [doAct]
    split
    · exact ⟨(goes n a b).1, fun _ => (goes n a b).2⟩
    · have := goes (r.row + 1) (by omega) (by omega)
      exact ⟨this.1, fun _ => this.2⟩
theorem how_wf (so : SOk s hk gk w) (hN : N ≤ 1000) (f : WF s hk gk w x N) (hr : getN x.hs h = some r) :
    howOk s (draftOf x) h r ∧ (doHow s (draftOf x) h r).1.told.length ≤ 58000 ∧ ((doHow s (draftOf x) h r).2 = none → WF s hk gk w ⟨(doHow s (draftOf x) h r).1.hs, (doHow s (draftOf x) h r).1.gs⟩ (N + 1)) := by
  have hin := some_key f.ks hr
  obtain ⟨rows, hp, hlen, hgo⟩ := so.pr h hin
  have ri := f.ri h r rows hr hp
  have idle : (draftOf x).told.length ≤ 58000 := by
    show ([] : List PyData).length ≤ _
    simp
  have row : r.how = .out ∨ r.how = .within → rowOk s (draftOf x) h r ∧ (doRow s (draftOf x) h r).1.told.length ≤ 58000 ∧ ((doRow s (draftOf x) h r).2 = none → WF s hk gk w ⟨(doRow s (draftOf x) h r).1.hs, (doRow s (draftOf x) h r).1.gs⟩ (N + 1)) := fun ho => by
    refine ⟨⟨rows, hp, ri.1, ri.2.1, hlen, fun row hrow => (act_wf so hN f hr ho hp hrow).1⟩, ?_⟩
    unfold doRow
    rw [hp]
    dsimp only
    split
    · exact ⟨idle, fun z => by cases z⟩
    · cases hrow : rows[r.row.toNat]? with
      | none => exact ⟨idle, fun z => by cases z⟩
      | some row => exact (act_wf so hN f hr ho hp hrow).2
  have gd : getN (draftOf x).hs h = some r := hr
  unfold howOk doHow
  cases ho : r.how with
  | out => exact row (Or.inl ho)
  | within => exact row (Or.inr ho)
  | loose =>
    have hv0 : hv x.hs h = some .loose := by rw [hv_at hr, ho]
    refine ⟨trivial, ?_, fun _ => ⟨by rw [← f.ks]; exact keys_set _ _ _, f.gs, ?_, ?_, fun g r hg => Nat.le_succ_of_le (f.ln g r hg)⟩⟩
    · dsimp only
      rw [tell_len]
      show ([] : List PyData).length + 1 ≤ _
      simp
    · show Core s w (hv (setN x.hs h ⟨r.row, r.last, .waits, r.looks⟩)) (gv x.gs)
      rw [hv_set hr]
      refine ⟨f.co.je.how hv0 (by decide) (show How.waits ≠ .out by decide) (fun z => by cases z) (fun z => by cases z), f.co.lk.congr (fun n => ?_) fun _ => rfl⟩
      by_cases e2 : n = h
      · rw [e2, setF_same, hv0]
        constructor <;> intro z <;> cases z
      · rw [setF_ne e2]
    · refine f.ri.set hr fun rows' z => ?_
      rw [hp] at z
      cases z
      exact ⟨ri.1, ri.2.1, fun _ => ri.2.2.1 (Or.inl ho), ri.2.2.2⟩
  | waits =>
    dsimp only
    refine ⟨fun _ => (leave_wf so hN f hr ho).1, ?_⟩
    cases hl : r.looks with
    | none => exact ⟨idle, fun z => by cases z⟩
    | some l =>
      dsimp only
      by_cases e : l = 0
      · rw [if_pos e]
        obtain ⟨_, b, c⟩ := leave_wf so hN f hr ho
        refine ⟨b, fun z => (c ?_).mono (Nat.le_succ N)⟩
        dsimp only at z
        split at z
        · assumption
        · cases z
      · rw [if_neg e]
        refine ⟨?_, fun _ => (same_wf f hr (r' := ⟨r.row, r.last, .waits, some (l - 1)⟩) ho.symm fun rows' z => ?_).mono (Nat.le_succ N)⟩
        · rw [tell_len]
          show ([] : List PyData).length + 1 ≤ _
          simp
        · rw [hp] at z
          cases z
          refine ⟨ri.1, ri.2.1, fun _ => ri.2.2.1 (Or.inr ho), fun l' z => ?_⟩
          have := ri.2.2.2 l hl
          cases z
          omega
theorem step_wf (so : SOk s hk gk w) (hN : N ≤ 1000) (f : WF s hk gk w x N) (hr : getN x.hs h = some r) : howOk s (draftOf x) h r ∧ (stepP s x h).2.length ≤ 58000 ∧ WF s hk gk w (stepP s x h).1 (N + 1) := by
  obtain ⟨a, b, c⟩ := how_wf so hN f hr
  refine ⟨a, ?_⟩
  unfold stepP drafted
  rw [hr]
  dsimp only
  cases hd : doHow s (draftOf x) h r with
  | mk d o =>
    rw [hd] at b c
    cases o with
    | none => exact ⟨b, c rfl⟩
    | some why =>
      dsimp only
      exact ⟨by simp, f.mono (Nat.le_succ N)⟩
end
end NL
/-! a new house: what its plan tells -/
namespace NL
open PySem L2 Evl
theorem getN_mem {α : Type} : ∀ {xs : List (Str × α)} {n : Str} {v : α}, (xs.map (·.1)).Nodup → (n, v) ∈ xs → getN xs n = some v
  | [], _, _, _, h => by cases h
  | (k, u) :: r, n, v, nd, h => by
    rw [List.map_cons, List.nodup_cons] at nd
    rcases List.mem_cons.mp h with z | z
    · cases z
      simp [getN]
    · have ne : k ≠ n := fun e => nd.1 (by rw [show (k, u).1 = n from e]; exact List.mem_map.mpr ⟨(n, v), z, rfl⟩)
      simp only [getN, if_neg ne]
      exact getN_mem nd.2 z
theorem mem_getN {α : Type} : ∀ {xs : List (Str × α)} {n : Str} {v : α}, getN xs n = some v → (n, v) ∈ xs
  | [], _, _, h => by cases h
  | (k, u) :: r, n, v, h => by
    by_cases e : k = n
    · simp only [getN, if_pos e] at h
      cases h
      rw [e]
      exact List.mem_cons_self
    · simp only [getN, if_neg e] at h
      exact List.mem_cons_of_mem _ (mem_getN h)
def Tr.nm : Tr → Str
  | .hand n => n
  | .grp n _ _ => n
mutual
theorem rows_up : ∀ (t : Tr) (p : List Str) (r : Rb), r ∈ t.rows p → (r.2.2 = p ∧ r.1 = t.nm) ∨ ∃ g q bb, r.2.2 = g :: q ∧ (g, some bb, q) ∈ t.rows p
  | .hand n, p, r, h => by
    simp only [Tr.rows, List.mem_singleton] at h
    subst h
    exact Or.inl ⟨rfl, rfl⟩
  | .grp n b ms, p, r, h => by
    simp only [Tr.rows, List.mem_cons] at h
    rcases h with h | h
    · subst h
      exact Or.inl ⟨rfl, rfl⟩
    · right
      rcases rowss_up ms (n :: p) r h with z | ⟨g, q, bb, e1, e2⟩
      · exact ⟨n, p, b, z, by simp [Tr.rows]⟩
      · exact ⟨g, q, bb, e1, by simp only [Tr.rows]; exact List.mem_cons_of_mem _ e2⟩
theorem rowss_up : ∀ (ts : List Tr) (p : List Str) (r : Rb), r ∈ rowss ts p → r.2.2 = p ∨ ∃ g q bb, r.2.2 = g :: q ∧ (g, some bb, q) ∈ rowss ts p
  | [], p, r, h => by simp [rowss] at h
  | t :: ts, p, r, h => by
    simp only [rowss, List.mem_append] at h ⊢
    rcases h with h | h
    · rcases rows_up t p r h with ⟨z, _⟩ | ⟨g, q, bb, e1, e2⟩
      · exact Or.inl z
      · exact Or.inr ⟨g, q, bb, e1, Or.inl e2⟩
    · rcases rowss_up ts p r h with z | ⟨g, q, bb, e1, e2⟩
      · exact Or.inl z
      · exact Or.inr ⟨g, q, bb, e1, Or.inr e2⟩
end
mutual
theorem rows_deep : ∀ (t : Tr) (p : List Str) (r : Rb), r ∈ t.rows p → r.2.2.length ≤ p.length + t.deep
  | .hand n, p, r, h => by
    simp only [Tr.rows, List.mem_singleton] at h
    subst h
    exact Nat.le_add_right _ _
  | .grp n b ms, p, r, h => by
    simp only [Tr.rows, List.mem_cons] at h
    rcases h with h | h
    · subst h
      exact Nat.le_add_right _ _
    · have := rowss_deep ms (n :: p) r h
      simp only [Tr.deep]
      rw [List.length_cons] at this
      omega
theorem rowss_deep : ∀ (ts : List Tr) (p : List Str) (r : Rb), r ∈ rowss ts p → r.2.2.length ≤ p.length + deeps ts
  | [], p, r, h => by simp [rowss] at h
  | t :: ts, p, r, h => by
    simp only [rowss, List.mem_append] at h
    simp only [deeps]
    rcases h with h | h
    · have := rows_deep t p r h
      omega
    · have := rowss_deep ts p r h
      omega
end
mutual
theorem rows_pos : ∀ (t : Tr) (p : List Str) (r : Rb), r ∈ t.rows p → r.2.2 = p → r.2.1 = none → t = .hand r.1
  | .hand n, p, r, h, _, _ => by
    simp only [Tr.rows, List.mem_singleton] at h
    subst h
    rfl
  | .grp n b ms, p, r, h, e, z => by
    simp only [Tr.rows, List.mem_cons] at h
    rcases h with h | h
    · subst h
      cases z
    · obtain ⟨q, hq⟩ := rowss_long ms (n :: p) r h
      rw [e] at hq
      have := congrArg List.length hq
      rw [List.length_append, List.length_cons] at this
      omega
theorem rowss_long : ∀ (ts : List Tr) (p : List Str) (r : Rb), r ∈ rowss ts p → ∃ q, r.2.2 = q ++ p
  | ts, p, r, h => by
    have h' : plainR r ∈ (rowss ts p).map plainR := List.mem_map.mpr ⟨r, h, rfl⟩
    rw [rowss_told] at h'
    exact tolds_end ts p (plainR r) h'
end
def pathsOf (t : Tr) : List (Str × List Str) := (t.rows []).map fun r => (r.1, r.2.2)
def bndsOf (t : Tr) : List (Str × Int) := ((t.rows []).filter fun r => r.2.1.isSome).map fun r => (r.1, r.2.1.getD 0)
def staOf (t : Tr) (bk : List (Str × List Row)) : Sta := ⟨pathsOf t, bndsOf t, bk⟩
def shOf (t : Tr) : SH := ⟨(handsOf t).map fun x => (x, ⟨0, 0, .out, none⟩), (groupsOf t).map fun x => (x, ⟨none, 0, []⟩)⟩
theorem paths_nms (t : Tr) : (pathsOf t).map (·.1) = t.nms := by
  rw [← told_nms t [], ← rows_told]
  unfold pathsOf
  rw [List.map_map, List.map_map]
  rfl
theorem bnds_nms (t : Tr) : (bndsOf t).map (·.1) = groupsOf t := by
  rw [groups_rows]
  unfold bndsOf
  rw [List.map_map]
  rfl
/-- what a book must tell of its rows -/
def progOk (rows : List Row) : Prop := rows.length ≤ 5000 ∧ (∀ n, (Row.goto n ∈ rows ∨ ∃ a, Row.iff a n ∈ rows) → 0 ≤ n ∧ n ≤ (rows.length : Int)) ∧ ∀ l, Row.take (some l) ∈ rows → 0 ≤ l
section
variable {n : Str} {b : Int} {ms : List Tr} {bk : List (Str × List Row)}
theorem path_row {m : Str} {p : List Str} (h : getN (pathsOf (.grp n b ms)) m = some p) : ∃ o, (m, o, p) ∈ (Tr.grp n b ms).rows [] := by
  have := mem_getN h
  unfold pathsOf at this
  obtain ⟨⟨a, o, q⟩, hr, e⟩ := List.mem_map.mp this
  cases e
  exact ⟨o, hr⟩
theorem row_path (nd : (Tr.grp n b ms).nms.Nodup) {m : Str} {o : Option Int} {p : List Str} (h : (m, o, p) ∈ (Tr.grp n b ms).rows []) : getN (pathsOf (.grp n b ms)) m = some p := by
  refine getN_mem (by rw [paths_nms]; exact nd) ?_
  unfold pathsOf
  exact List.mem_map.mpr ⟨(m, o, p), h, rfl⟩
theorem top_row : (n, some b, []) ∈ (Tr.grp n b ms).rows [] := by simp [Tr.rows]
theorem in_groups {m : Str} {o : Int} {p : List Str} (h : (m, some o, p) ∈ (Tr.grp n b ms).rows []) : m ∈ groupsOf (.grp n b ms) := by
  rw [groups_rows]
  exact List.mem_map.mpr ⟨_, List.mem_filter.mpr ⟨h, rfl⟩, rfl⟩
theorem row_kind {r : Rb} (h : r ∈ (Tr.grp n b ms).rows []) : r = (n, some b, []) ∨ ∃ g q bb, r.2.2 = g :: q ∧ (g, some bb, q) ∈ (Tr.grp n b ms).rows [] := by
  have h0 := h
  simp only [Tr.rows, List.mem_cons] at h
  rcases h with h | h
  · exact Or.inl h
  · rcases rows_up _ [] r h0 with ⟨z, _⟩ | z
    · obtain ⟨q, hq⟩ := rowss_long ms [n] r h
      rw [z] at hq
      have := congrArg List.length hq
      rw [List.length_append, List.length_cons] at this
      simp at this
    · exact Or.inr z
theorem sok_of (nd : (Tr.grp n b ms).nms.Nodup) (dp : (Tr.grp n b ms).deep ≤ 10) (bp : ∀ h ∈ handsOf (.grp n b ms), ∃ rows, getN bk h = some rows) (bo : ∀ h rows, getN bk h = some rows → progOk rows) : SOk (staOf (.grp n b ms) bk) (handsOf (.grp n b ms)) (groupsOf (.grp n b ms)) n := by
  have nds := List.nodup_append.mp (names_nodup nd)
  refine ⟨fun h hh => ?_, fun g hg => ?_, fun m g p hm => ?_, fun h hh hg => nds.2.2 h hh h hg rfl, in_groups top_row, row_path nd top_row, fun m hm => ?_, fun m p hm => ?_, fun g hg => ?_, fun h hh => ?_, fun h hh rows hr l hl => (bo h rows hr).2.2 l hl⟩
  · rw [hands_rows] at hh
    obtain ⟨r, hr, rfl⟩ := List.mem_map.mp hh
    obtain ⟨h1, h2⟩ := List.mem_filter.mp hr
    obtain ⟨m, o, p⟩ := r
    rcases row_kind h1 with z | ⟨g, q, bb, e, _⟩
    · cases z
      simp at h2
    · refine ⟨g, q, ?_⟩
      have := row_path nd h1
      have e : p = g :: q := e
      rw [e] at this
      exact this
  · rw [groups_rows] at hg
    obtain ⟨r, hr, rfl⟩ := List.mem_map.mp hg
    obtain ⟨h1, h2⟩ := List.mem_filter.mp hr
    obtain ⟨m, o, p⟩ := r
    exact ⟨p, row_path nd h1⟩
  · obtain ⟨o, h1⟩ := path_row hm
    rcases row_kind h1 with z | ⟨g', q, bb, e, hq⟩
    · cases z
    · have e : g :: p = g' :: q := e
      cases e
      exact ⟨in_groups hq, row_path nd hq⟩
  · obtain ⟨o, h1⟩ := path_row hm
    rcases row_kind h1 with z | ⟨g', q, bb, e, hq⟩
    · cases z
      rfl
    · have e : [] = g' :: q := e
      cases e
  · obtain ⟨o, h1⟩ := path_row hm
    have := rows_deep _ [] _ h1
    have : p.length ≤ 0 + (Tr.grp n b ms).deep := this
    omega
  · have := getN_isSome (bndsOf (.grp n b ms)) g
    rw [bnds_nms, decide_eq_true hg] at this
    exact Option.isSome_iff_exists.mp this
  · obtain ⟨rows, hr⟩ := bp h hh
    exact ⟨rows, hr, (bo h rows hr).1, (bo h rows hr).2.1⟩
theorem hv_new {xs : List Str} {m : Str} {y : How} (h : hv (xs.map fun x => (x, (⟨0, 0, .out, none⟩ : HR))) m = some y) : y = .out := by
  obtain ⟨r, h1, h2⟩ := hv_of h
  have := mem_getN h1
  obtain ⟨x, _, e⟩ := List.mem_map.mp this
  cases e
  exact h2.symm
theorem gv_new {xs : List Str} {m : Str} {o : Option Str} {ps : List (Str × Bool)} (h : gv (xs.map fun x => (x, (⟨none, 0, []⟩ : GR))) m = some (o, ps)) : o = none ∧ ps = [] := by
  obtain ⟨r, h1, h2, h3⟩ := gv_of h
  have := mem_getN h1
  obtain ⟨x, _, e⟩ := List.mem_map.mp this
  cases e
  exact ⟨h2.symm, h3.symm⟩
theorem keys_new {α : Type} {xs : List Str} {d : α} : (xs.map fun x => (x, d)).map (·.1) = xs := by
  rw [List.map_map]
  exact List.map_id' xs
theorem wf_new (so : SOk (staOf (.grp n b ms) bk) (handsOf (.grp n b ms)) (groupsOf (.grp n b ms)) n) : WF (staOf (.grp n b ms) bk) (handsOf (.grp n b ms)) (groupsOf (.grp n b ms)) n (shOf (.grp n b ms)) 0 := by
  have na : ∀ m, ¬ act (hv (shOf (.grp n b ms)).hs) (gv (shOf (.grp n b ms)).gs) m := fun m z => by
    rcases z with ⟨x, hx, ne⟩ | ⟨o, ps, hk⟩
    · exact ne (hv_new hx)
    · have := (gv_new hk).1
      cases this
  refine ⟨keys_new, keys_new, ⟨⟨fun m x hx => ?_, fun m g hu => ?_, fun g ps m hg => ?_, fun g o ps m hg hp => ?_, fun g o ps hg => ?_, fun g ps hg => (gv_new hg).2, fun m g o ps _ a _ _ => absurd a (na m)⟩, Or.inl ⟨?_, fun m hm => ?_⟩⟩, fun m r rows hm hp => ?_, fun g r hg => ?_⟩
  · obtain ⟨r, h1, _⟩ := hv_of hx
    have hin := some_key (keys_new (xs := handsOf (.grp n b ms))) h1
    cases z : gv (shOf (.grp n b ms)).gs m with
    | none => rfl
    | some v =>
      obtain ⟨o, ps⟩ := v
      obtain ⟨g, h2, _⟩ := gv_of z
      exact absurd (some_key (keys_new (xs := groupsOf (.grp n b ms))) h2) (so.dj m hin)
  · obtain ⟨p, hp⟩ := of_up hu
    intro e
    exact path_self so hp (by rw [e]; exact List.mem_cons_self)
  · have := (gv_new hg).1
    cases this
  · rw [(gv_new hg).2] at hp
    cases hp
  · rw [(gv_new hg).2]
    simp
  · obtain ⟨g, hg⟩ := key_some (keys_new (xs := groupsOf (.grp n b ms)) (d := (⟨none, 0, []⟩ : GR))) so.wg
    have hg' := gv_at hg
    have := (gv_new hg').1
    rw [this] at hg'
    exact ⟨_, hg'⟩
  · have := hv_new hm
    cases this
  · have := mem_getN hm
    obtain ⟨x, _, e⟩ := List.mem_map.mp this
    cases e
    exact ⟨Int.le_refl _, by show (0 : Int) ≤ _; omega, (fun z => by rcases z with z | z <;> cases z), fun l z => by cases z⟩
  · have := mem_getN hg
    obtain ⟨x, _, e⟩ := List.mem_map.mp this
    cases e
    exact Nat.le_refl _
end
end NL
/-! names and numbers of a state stay small -/
namespace NL
open PySem L2 Evl
structure HZ (L : Nat) (r : HR) : Prop where
  la : -1 ≤ r.last ∧ r.last ≤ 1
  lo : ∀ l, r.looks = some l → l ≤ (L : Int)
structure GZ (A : Str → Prop) (N : Nat) (g : GR) : Prop where
  co : 0 ≤ g.count ∧ g.count ≤ (N : Int)
  ho : ∀ m, g.holder = some m → A m
  pl : ∀ p ∈ g.places, A p.1
def DZ (A : Str → Prop) (L N : Nat) (hs : List (Str × HR)) (gs : List (Str × GR)) : Prop := (∀ h r, getN hs h = some r → HZ L r) ∧ ∀ g r, getN gs g = some r → GZ A N r
section
variable {A : Str → Prop} {L N : Nat} {d : DS}
theorem DZ.setH {hs : List (Str × HR)} {gs : List (Str × GR)} {n : Str} {r : HR} (h : DZ A L N hs gs) (z : HZ L r) : DZ A L N (setN hs n r) gs := ⟨fun m x hx => by
  rw [getN_set] at hx
  split at hx
  · cases q : getN hs n with
    | none => rw [q] at hx; cases hx
    | some y => rw [q] at hx; cases hx; exact z
  · exact h.1 m x hx, h.2⟩
theorem DZ.setG {hs : List (Str × HR)} {gs : List (Str × GR)} {n : Str} {r : GR} (h : DZ A L N hs gs) (z : GZ A N r) : DZ A L N hs (setN gs n r) := ⟨h.1, fun m x hx => by
  rw [getN_set] at hx
  split at hx
  · cases q : getN gs n with
    | none => rw [q] at hx; cases hx
    | some y => rw [q] at hx; cases hx; exact z
  · exact h.2 m x hx⟩
theorem DZ.mono {hs : List (Str × HR)} {gs : List (Str × GR)} {M : Nat} (h : DZ A L N hs gs) (hm : N ≤ M) : DZ A L M hs gs := ⟨h.1, fun g r hg => ⟨⟨(h.2 g r hg).co.1, by have := (h.2 g r hg).co.2; omega⟩, (h.2 g r hg).ho, (h.2 g r hg).pl⟩⟩
theorem came_z {m : Str} (h : DZ A L N d.hs d.gs) : DZ A L N (came d m).hs (came d m).gs := by
  unfold came
  split
  · exact h.setH ⟨⟨show (-1 : Int) ≤ 1 by decide, show (1 : Int) ≤ 1 by decide⟩, fun l z => by cases z⟩
  · exact h
theorem give_z (hN : 1 ≤ N) : ∀ (k : Nat) (d : DS) (m : Str), DZ A L N d.hs d.gs → DZ A L N (giveLock k d m).hs (giveLock k d m).gs
  | 0, d, m, h => h
  | k + 1, d, m, h => by
    unfold giveLock
    split
    · rename_i g hg
      have z := h.2 m g hg
      exact give_z hN k _ _ (h.setG ⟨⟨show (0 : Int) ≤ 1 by decide, by show (1 : Int) ≤ _; omega⟩, z.ho, z.pl⟩)
    · exact came_z h
theorem add_z {m g : Str} (h : DZ A L N d.hs d.gs) (hm : A m) : DZ A L N (addPlace d m g).hs (addPlace d m g).gs := by
  unfold addPlace
  split
  · rename_i r hr
    have z := h.2 g r hr
    refine h.setG ⟨z.co, z.ho, fun p hp => ?_⟩
    rcases List.mem_append.mp hp with q | q
    · exact z.pl p q
    · rw [List.mem_singleton.mp q]
      exact hm
  · exact h
theorem stand_z (hN : 1 ≤ N) {hand : Str} {r : HR} {l : Option Int} (hr : HZ L ⟨r.row, r.last, .loose, l⟩) : ∀ (p : List Str) (d : DS) (m : Str), DZ A L N d.hs d.gs → A m → (∀ x ∈ p, A x) → DZ A L N (standL hand r l d m p).hs (standL hand r l d m p).gs
  | [], d, m, h, _, _ => give_z hN _ _ _ h
  | g :: p, d, m, h, hm, hp => by
    unfold standL
    split
    · rename_i gr hg
      have z := h.2 g gr hg
      split
      · split
        · exact (add_z h hm).setH hr
        · exact add_z h hm
      · exact stand_z hN hr p _ g (h.setG ⟨z.co, fun x e => by cases e; exact hm, z.pl⟩) (hp g List.mem_cons_self) fun x hx => hp x (List.mem_cons_of_mem _ hx)
    · exact h
theorem pass_z {g : Str} (h : DZ A L N d.hs d.gs) : DZ A L N (passLeft d g).1.hs (passLeft d g).1.gs := by
  unfold passLeft
  split
  · rename_i r hr
    have z := h.2 g r hr
    have y : DZ A L N d.hs (setN d.gs g { r with places := r.places.dropWhile fun p => !p.2 }) := h.setG ⟨z.co, z.ho, fun p hp => z.pl p (of_rest hp)⟩
    dsimp only
    split
    · exact y
    · exact y
  · exact h
theorem on_z {g why : Str} {c : Int} (h : DZ A L N d.hs d.gs) (c0 : 0 ≤ c) (c1 : c ≤ (N : Int)) : DZ A L N (handOn d g why c).1.hs (handOn d g why c).1.gs := by
  unfold handOn
  split
  · rename_i r hr
    have z := h.2 g r hr
    split
    · rename_i p rest e
      refine h.setG ⟨⟨c0, c1⟩, fun m e9 => ?_, fun q hq => z.pl q (by rw [e]; exact List.mem_cons_of_mem _ hq)⟩
      cases e9
      exact z.pl p (by rw [e]; exact List.mem_cons_self)
    · exact h
  · exact h
theorem count_z {g : Str} (h : DZ A L N d.hs d.gs) : 0 ≤ countOf d g ∧ countOf d g ≤ (N : Int) := by
  unfold countOf
  split
  · rename_i r hr
    exact (h.2 g r hr).co
  · exact ⟨Int.le_refl _, by omega⟩
theorem near_z {g : Str} {top : Bool} (h : DZ A L N d.hs d.gs) : DZ A L (N + 1) (handNear d g top).hs (handNear d g top).gs := by
  unfold handNear
  have c := count_z (g := g) h
  refine give_z (by omega) _ _ _ (on_z (h.mono (Nat.le_succ N)) ?_ ?_)
  · split <;> omega
  · split <;> omega
theorem over_z {g a : Str} (h : DZ A L N d.hs d.gs) (hg : A g) : DZ A L N (handOver d g a).hs (handOver d g a).gs := add_z (on_z h (Int.le_refl _) (by omega)) hg
theorem bare_z {g : Str} (h : DZ A L N d.hs d.gs) : DZ A L N (makeBare d g).hs (makeBare d g).gs := h.setG ⟨⟨Int.le_refl _, by show (0 : Int) ≤ _; omega⟩, (fun m e => by cases e), fun p hp => by cases hp⟩
theorem letL_z (s : Sta) : ∀ (p : List Str) (d : DS), DZ A L N d.hs d.gs → (∀ x ∈ p, A x) → DZ A L (N + 1) (letGoL s d p).1.hs (letGoL s d p).1.gs
  | [], d, h, _ => h.mono (Nat.le_succ N)
  | g :: p, d, h, hp => by
    have z := pass_z (g := g) h
    have hp' : ∀ x ∈ p, A x := fun x hx => hp x (List.mem_cons_of_mem _ hx)
    unfold letGoL
    split
    · rename_i d1 e
      rw [e] at z
      exact letL_z s p _ (bare_z z) hp'
    · rename_i d1 m e
      rw [e] at z
      split
      · exact z.mono (Nat.le_succ N)
      · split
        · exact near_z z
        · exact letL_z s p _ (over_z z (hp g List.mem_cons_self)) hp'
theorem leaveL_z : ∀ (p : List Str) (d : DS) (m : Str), DZ A L N d.hs d.gs → DZ A L N (leaveL d m p).1.hs (leaveL d m p).1.gs
  | [], d, m, h => h
  | g :: p, d, m, h => by
    unfold leaveL
    split
    · exact h
    · rename_i r hr
      have y := h.2 g r hr
      split
      · refine h.setG ⟨y.co, y.ho, fun q hq => ?_⟩
        have hq : q ∈ NL.without r.places m := hq
        unfold NL.without at hq
        obtain ⟨q', h1, e⟩ := List.mem_map.mp hq
        rw [← e]
        exact y.pl q' h1
      · have z : DZ A L N (passLeft (d.tell (e2 "left" m)) g).1.hs (passLeft (d.tell (e2 "left" m)) g).1.gs := pass_z h
        split
        · rename_i d1 e
          rw [e] at z
          exact leaveL_z p _ _ (bare_z z)
        · rename_i d1 f e
          rw [e] at z
          split
          · exact z
          · exact on_z z y.co.1 y.co.2
end
theorem step_z {A : Str → Prop} {L N : Nat} {s : Sta} {x : SH} {h : Str} (hN : 1 ≤ N) (hp : ∀ n p, getN s.paths n = some p → A n ∧ ∀ y ∈ p, A y) (hl : ∀ n rows, getN s.progs n = some rows → ∀ l, Row.take (some l) ∈ rows → l ≤ (L : Int)) (z : DZ A L N x.hs x.gs) : DZ A L (N + 1) (stepP s x h).1.hs (stepP s x h).1.gs := by
  unfold stepP drafted
  dsimp only
  cases hr : getN x.hs h with
  | none => exact z.mono (Nat.le_succ N)
  | some r =>
    have y := z.1 h r hr
    have z1 : DZ A L (N + 1) (draftOf x).hs (draftOf x).gs := z.mono (Nat.le_succ N)
    have fin : ∀ (last : Int) (e : PyData), -1 ≤ last → last ≤ 1 → DZ A L (N + 1) (NL.finish (draftOf x) h last e).hs (NL.finish (draftOf x) h last e).gs := fun last e l1 l2 => by
      unfold NL.finish
      split
      · rename_i r' hr'
        exact z1.setH ⟨⟨l1, l2⟩, (z1.1 h r' hr').lo⟩
      · exact z1
    have goes : ∀ n : Int, DZ A L (N + 1) (goTo (draftOf x) h n).hs (goTo (draftOf x) h n).gs := fun n => by
      unfold goTo
      split
      · rename_i r' hr'
        exact z1.setH ⟨(z1.1 h r' hr').la, (z1.1 h r' hr').lo⟩
      · exact z1
    have stn : ∀ l : Option Int, (∀ i, l = some i → i ≤ (L : Int)) → DZ A L (N + 1) (stand s (draftOf x) h l).hs (stand s (draftOf x) h l).gs := fun l hl => by
      unfold stand
      split
      · rename_i r' p' hr' hp'
        have y' := z1.1 h r' hr'
        obtain ⟨a1, a2⟩ := hp h p' hp'
        exact stand_z (by omega) ⟨y'.la, hl⟩ _ _ _ (z1.setH ⟨y'.la, hl⟩) a1 a2
      · exact z1
    have main : DZ A L (N + 1) (doHow s (draftOf x) h r).1.hs (doHow s (draftOf x) h r).1.gs := by
      have row : DZ A L (N + 1) (doRow s (draftOf x) h r).1.hs (doRow s (draftOf x) h r).1.gs := by
        unfold doRow
        split
        · rename_i rows hrows
          split
          · exact z1
          · split
            · rename_i row hrow
              have mem : row ∈ rows := List.mem_of_getElem? hrow
              cases row with
              | take l =>
                simp only [doAct]
                split
                · exact fin _ _ (by decide) (by decide)
                · exact stn l fun i e => hl h rows hrows i (by rw [← e]; exact mem)
              | tri =>
                simp only [doAct]
                split
                · exact fin _ _ (by decide) (by decide)
                · split
                  · exact stn none fun i e => by cases e
                  · exact fin _ _ (by decide) (by decide)
              | let_ =>
                simp only [doAct]
                split
                · show DZ A L (N + 1) (NL.letGo s (draftOf x) h).1.hs (NL.letGo s (draftOf x) h).1.gs
                  unfold NL.letGo
                  split
                  · rename_i r' p' hr' hp'
                    exact letL_z s _ _ (z.setH (r := ⟨r'.row + 1, 0, .out, none⟩) ⟨⟨show (-1 : Int) ≤ 0 by decide, show (0 : Int) ≤ 1 by decide⟩, fun l e => by cases e⟩) (hp h p' hp').2
                  · exact z1
                · exact fin _ _ (by decide) (by decide)
              | say n => exact fin _ _ (by decide) (by decide)
              | goto n => exact goes n
              | iff a n => exact goes _
            · exact z1
        · exact z1
      unfold doHow
      split
      · exact row
      · exact row
      · exact z1.setH ⟨y.la, y.lo⟩
      · split
        · exact z1
        · rename_i l el
          split
          · show DZ A L (N + 1) (leave s (draftOf x) h).1.hs (leave s (draftOf x) h).1.gs
            unfold leave
            split
            · rename_i r' p' hr' hp'
              exact leaveL_z _ _ _ (z1.setH (r := ⟨r'.row + 1, 0, .out, none⟩) ⟨⟨show (-1 : Int) ≤ 0 by decide, show (0 : Int) ≤ 1 by decide⟩, fun l e => by cases e⟩)
            · exact z1
          · refine z1.setH ⟨y.la, fun l' e => ?_⟩
            have := y.lo l el
            cases e
            omega
    dsimp only
    cases hd : doHow s (draftOf x) h r with
    | mk d o =>
      rw [hd] at main
      cases o with
      | none => exact main
      | some why => exact z.mono (Nat.le_succ N)
end NL
/-! what a step tells: short rows of names, words and numbers -/
namespace NL
open PySem L2 Evl
def AtZ (d : PyData) : Prop := (∃ s, d = .str s ∧ asc s ∧ s.length ≤ 20) ∨ ∃ i : Int, d = .int i ∧ i.natAbs ≤ 4000000000
def EvZ (e : PyData) : Prop := ∃ ds, e = .tuple ds ∧ ds.length ≤ 5 ∧ ∀ d ∈ ds, AtZ d
def TZ (d : DS) : Prop := ∀ e ∈ d.told, EvZ e
def NmZ (m : Str) : Prop := asc m ∧ m.length ≤ 20
theorem at_s {s : Str} (h : NmZ s) : AtZ (.str s) := Or.inl ⟨s, rfl, h.1, h.2⟩
theorem at_i {i : Int} (h : i.natAbs ≤ 4000000000) : AtZ (.int i) := Or.inr ⟨i, rfl, h⟩
theorem z2 {a : String} {x : Str} (ha : NmZ (Str.ofString a)) (hx : NmZ x) : EvZ (e2 a x) := ⟨_, rfl, by simp, fun d hd => by
  simp only [List.mem_cons, List.not_mem_nil, or_false] at hd
  rcases hd with rfl | rfl
  · exact at_s ha
  · exact at_s hx⟩
theorem z3 {a : String} {x y : Str} (ha : NmZ (Str.ofString a)) (hx : NmZ x) (hy : NmZ y) : EvZ (e3 a x y) := ⟨_, rfl, by simp, fun d hd => by
  simp only [List.mem_cons, List.not_mem_nil, or_false] at hd
  rcases hd with rfl | rfl | rfl
  · exact at_s ha
  · exact at_s hx
  · exact at_s hy⟩
theorem z4 {a : String} {x y z : Str} (ha : NmZ (Str.ofString a)) (hx : NmZ x) (hy : NmZ y) (hz : NmZ z) : EvZ (e4 a x y z) := ⟨_, rfl, by simp, fun d hd => by
  simp only [List.mem_cons, List.not_mem_nil, or_false] at hd
  rcases hd with rfl | rfl | rfl | rfl
  · exact at_s ha
  · exact at_s hx
  · exact at_s hy
  · exact at_s hz⟩
theorem z3i {a : String} {x : Str} {i : Int} (ha : NmZ (Str.ofString a)) (hx : NmZ x) (hi : i.natAbs ≤ 4000000000) : EvZ (e3i a x i) := ⟨_, rfl, by simp, fun d hd => by
  simp only [List.mem_cons, List.not_mem_nil, or_false] at hd
  rcases hd with rfl | rfl | rfl
  · exact at_s ha
  · exact at_s hx
  · exact at_i hi⟩
theorem nmz_lit {s : String} (h : s.toList.all (fun c => decide (c.toNat < 128)) = true) (hl : s.length ≤ 20) : NmZ (Str.ofString s) := ⟨asc_lit h, by rw [PySem.ofString_length]; exact hl⟩
theorem TZ.tell {d : DS} {e : PyData} (h : TZ d) (he : EvZ e) : TZ (d.tell e) := fun x hx => by
  have hx : x ∈ d.told ++ [e] := hx
  rcases List.mem_append.mp hx with z | z
  · exact h x z
  · rw [List.mem_singleton.mp z]
    exact he
section
variable {A : Str → Prop} (hA : ∀ m, A m → NmZ m) {L N : Nat}
include hA
theorem came_t {d : DS} {m : Str} (h : TZ d) (hm : A m) : TZ (came d m) := by
  unfold came
  split
  · exact TZ.tell (d := d.setH m _) h (z2 (nmz_lit (by decide) (by decide)) (hA m hm))
  · exact h
theorem give_t (hN : 1 ≤ N) : ∀ (k : Nat) (d : DS) (m : Str), DZ A L N d.hs d.gs → TZ d → A m → TZ (giveLock k d m)
  | 0, d, m, _, h, _ => h
  | k + 1, d, m, z, h, hm => by
    unfold giveLock
    split
    · rename_i g hg
      have y := z.2 m g hg
      refine give_t hN k _ _ (z.setG ⟨⟨show (0 : Int) ≤ 1 by decide, by show (1 : Int) ≤ _; omega⟩, y.ho, y.pl⟩) h ?_
      cases e : g.holder with
      | none => exact hm
      | some o => exact y.ho o e
    · exact came_t hA h hm
theorem add_t {d : DS} {m g : Str} (h : TZ d) : TZ (addPlace d m g) := by
  unfold addPlace
  split
  · exact h
  · exact h
theorem stand_t (hN : 1 ≤ N) {hand : Str} {r : HR} {l : Option Int} : ∀ (p : List Str) (d : DS) (m : Str), DZ A L N d.hs d.gs → TZ d → A m → (∀ x ∈ p, A x) → TZ (standL hand r l d m p)
  | [], d, m, z, h, hm, _ => give_t hA hN _ _ _ z h hm
  | g :: p, d, m, z, h, hm, hp => by
    have hg := hp g List.mem_cons_self
    unfold standL
    split
    · rename_i gr hgr
      have y := z.2 g gr hgr
      have t := TZ.tell (add_t hA (m := m) (g := g) h) (z3 (a := "stood") (nmz_lit (by decide) (by decide)) (hA m hm) (hA g hg))
      split
      · split
        · exact t
        · exact t
      · exact stand_t hN p _ g (z.setG ⟨y.co, fun x e => by cases e; exact hm, y.pl⟩) (TZ.tell (d := d.setG g _) h (z3 (nmz_lit (by decide) (by decide)) (hA m hm) (hA g hg))) hg fun x hx => hp x (List.mem_cons_of_mem _ hx)
    · exact h
theorem pass_t {d : DS} {g : Str} (z : DZ A L N d.hs d.gs) (h : TZ d) (hg : A g) : TZ (passLeft d g).1 ∧ ∀ m, (passLeft d g).2 = some m → A m := by
  unfold passLeft
  split
  · rename_i r hr
    have y := z.2 g r hr
    have t : ∀ e ∈ d.told ++ (r.places.takeWhile fun p => !p.2).map fun p => e3 "passed" p.1 g, EvZ e := fun e he => by
      rcases List.mem_append.mp he with q | q
      · exact h e q
      · obtain ⟨p, hp, rfl⟩ := List.mem_map.mp q
        exact z3 (nmz_lit (by decide) (by decide)) (hA _ (y.pl p ((List.takeWhile_prefix _).subset hp))) (hA g hg)
    dsimp only
    split
    · exact ⟨t, fun m e => by cases e⟩
    · rename_i p rest e
      refine ⟨t, fun m em => ?_⟩
      cases em
      exact y.pl p (of_rest (by rw [e]; exact List.mem_cons_self))
  · exact ⟨h, fun m e => by cases e⟩
theorem on_t {d : DS} {g why : Str} {c : Int} (z : DZ A L N d.hs d.gs) (h : TZ d) (hg : A g) (hw : NmZ why) : TZ (handOn d g why c).1 ∧ A (handOn d g why c).2 := by
  unfold handOn
  split
  · rename_i r hr
    have y := z.2 g r hr
    split
    · rename_i p rest e
      have hp := y.pl p (by rw [e]; exact List.mem_cons_self)
      exact ⟨TZ.tell (d := d.setG g _) h (z4 (nmz_lit (by decide) (by decide)) (hA _ hp) (hA g hg) hw), hp⟩
    · exact ⟨h, hg⟩
  · exact ⟨h, hg⟩
theorem near_t {d : DS} {g : Str} {top : Bool} (z : DZ A L N d.hs d.gs) (h : TZ d) (hg : A g) : TZ (handNear d g top) := by
  unfold handNear
  have c := count_z (g := g) z
  obtain ⟨t1, t2⟩ := on_t hA (d := d) (g := g) (why := "near") (c := if top then countOf d g else countOf d g + 1) z h hg (nmz_lit (by decide) (by decide))
  refine give_t hA (N := N + 1) (by omega) _ _ _ (on_z (z.mono (Nat.le_succ N)) ?_ ?_) t1 t2
  · split <;> omega
  · split <;> omega
theorem over_t {d : DS} {g a : Str} (z : DZ A L N d.hs d.gs) (h : TZ d) (hg : A g) : TZ (handOver d g a) := add_t hA (on_t hA z h hg (nmz_lit (by decide) (by decide))).1
theorem bare_t {d : DS} {g : Str} (h : TZ d) (hg : A g) : TZ (makeBare d g) := TZ.tell (d := d.setG g _) h (z2 (nmz_lit (by decide) (by decide)) (hA g hg))
theorem letL_t (s : Sta) : ∀ (p : List Str) (d : DS), DZ A L N d.hs d.gs → TZ d → (∀ x ∈ p, A x) → TZ (letGoL s d p).1
  | [], d, _, h, _ => h
  | g :: p, d, z, h, hp => by
    have hg := hp g List.mem_cons_self
    have z1 := pass_z (g := g) z
    obtain ⟨t1, _⟩ := pass_t hA (g := g) z h hg
    have hp' : ∀ x ∈ p, A x := fun x hx => hp x (List.mem_cons_of_mem _ hx)
    unfold letGoL
    split
    · rename_i d1 e
      rw [e] at z1 t1
      exact letL_t s p _ (bare_z z1) (bare_t hA t1 hg) hp'
    · rename_i d1 m e
      rw [e] at z1 t1
      split
      · exact t1
      · split
        · exact near_t hA z1 t1 hg
        · exact letL_t s p _ (over_z z1 hg) (over_t hA z1 t1 hg) hp'
theorem leaveL_t : ∀ (p : List Str) (d : DS) (m : Str), DZ A L N d.hs d.gs → TZ d → A m → (∀ x ∈ p, A x) → TZ (leaveL d m p).1
  | [], d, m, _, h, _, _ => h
  | g :: p, d, m, z, h, hm, hp => by
    have hg := hp g List.mem_cons_self
    have hp' : ∀ x ∈ p, A x := fun x hx => hp x (List.mem_cons_of_mem _ hx)
    have t0 : TZ (d.tell (e2 "left" m)) := h.tell (z2 (nmz_lit (by decide) (by decide)) (hA m hm))
    unfold leaveL
    split
    · exact h
    · rename_i r hr
      split
      · exact t0
      · have z1 : DZ A L N (passLeft (d.tell (e2 "left" m)) g).1.hs (passLeft (d.tell (e2 "left" m)) g).1.gs := pass_z z
        obtain ⟨t1, _⟩ := pass_t hA (d := d.tell (e2 "left" m)) (g := g) z t0 hg
        split
        · rename_i d1 e
          rw [e] at z1 t1
          exact leaveL_t p _ g (bare_z z1) (bare_t hA t1 hg) hg hp'
        · rename_i d1 f e
          rw [e] at z1 t1
          split
          · exact t1
          · exact (on_t hA z1 t1 hg (nmz_lit (by decide) (by decide))).1
end
theorem step_t {A : Str → Prop} (hA : ∀ m, A m → NmZ m) {L N : Nat} {s : Sta} {x : SH} {h : Str} (hN : 1 ≤ N) (hh : A h) (hp : ∀ n p, getN s.paths n = some p → A n ∧ ∀ y ∈ p, A y) (hpr : ∀ rows, getN s.progs h = some rows → ∀ i, (Row.say i ∈ rows ∨ Row.goto i ∈ rows ∨ ∃ a, Row.iff a i ∈ rows) → i.natAbs ≤ 4000000000) (hrow : ∀ r, getN x.hs h = some r → r.row.natAbs ≤ 900000) (z : DZ A L N x.hs x.gs) : ∀ e ∈ (stepP s x h).2, EvZ e := by
  unfold stepP drafted
  dsimp only
  have t0 : TZ (draftOf x) := fun e he => by cases he
  have nh := hA h hh
  cases hr : getN x.hs h with
  | none => exact t0
  | some r =>
    have hr2 := hrow r hr
    have fin : ∀ (last : Int) (e : PyData), EvZ e → TZ (NL.finish (draftOf x) h last e) := fun last e he => by
      unfold NL.finish
      split
      · exact TZ.tell (d := (draftOf x).setH h _) t0 he
      · exact t0
    have goes : ∀ n : Int, n.natAbs ≤ 4000000000 → TZ (goTo (draftOf x) h n) := fun n hn => by
      unfold goTo
      split
      · exact TZ.tell (d := (draftOf x).setH h _) t0 (z3i (nmz_lit (by decide) (by decide)) nh hn)
      · exact t0
    have stn : ∀ l : Option Int, TZ (stand s (draftOf x) h l) := fun l => by
      unfold stand
      split
      · rename_i r' p' hr' hp'
        obtain ⟨a1, a2⟩ := hp h p' hp'
        have big : DZ A (L + (l.getD 0).natAbs) N ((draftOf x).setH h ⟨r'.row, r'.last, .waits, l⟩).hs ((draftOf x).setH h ⟨r'.row, r'.last, .waits, l⟩).gs := by
          have zb : DZ A (L + (l.getD 0).natAbs) N x.hs x.gs := ⟨fun m y q => ⟨(z.1 m y q).la, fun i ei => by have := (z.1 m y q).lo i ei; omega⟩, z.2⟩
          refine zb.setH ⟨(z.1 h r' hr').la, fun i ei => ?_⟩
          have ei : l = some i := ei
          rw [ei, Option.getD_some]
          omega
        exact stand_t hA hN _ _ _ big t0 a1 a2
      · exact t0
    have main : TZ (doHow s (draftOf x) h r).1 ∧ ∀ w, (doHow s (draftOf x) h r).2 = some w → NmZ w := by
      have row : TZ (doRow s (draftOf x) h r).1 ∧ ∀ w, (doRow s (draftOf x) h r).2 = some w → NmZ w := by
        have en : ∀ w, some (Str.ofString "ended") = some w → NmZ w := fun w e => by
          cases e
          exact nmz_lit (by decide) (by decide)
        unfold doRow
        split
        · rename_i rows hrows
          split
          · exact ⟨t0, en⟩
          · split
            · rename_i row hrw
              have mem : row ∈ rows := List.mem_of_getElem? hrw
              have non : ∀ w, (none : Option Str) = some w → NmZ w := fun w e => by cases e
              cases row with
              | take l =>
                simp only [doAct]
                split
                · exact ⟨fin _ _ (z2 (nmz_lit (by decide) (by decide)) nh), non⟩
                · exact ⟨stn l, non⟩
              | tri =>
                simp only [doAct]
                split
                · exact ⟨fin _ _ (z2 (nmz_lit (by decide) (by decide)) nh), non⟩
                · split
                  · exact ⟨stn none, non⟩
                  · exact ⟨fin _ _ (z2 (nmz_lit (by decide) (by decide)) nh), non⟩
              | let_ =>
                simp only [doAct]
                split
                · refine ⟨?_, fun w e => ?_⟩
                  · show TZ (NL.letGo s (draftOf x) h).1
                    unfold NL.letGo
                    split
                    · rename_i r' p' hr' hp'
                      exact letL_t hA s _ _ (z.setH (r := ⟨r'.row + 1, 0, .out, none⟩) ⟨⟨show (-1 : Int) ≤ 0 by decide, show (0 : Int) ≤ 1 by decide⟩, fun l e => by cases e⟩) (TZ.tell (d := (draftOf x).setH h _) t0 (z2 (nmz_lit (by decide) (by decide)) nh)) (hp h p' hp').2
                    · exact t0
                  · split at e
                    · cases e
                    · cases e
                      exact nmz_lit (by decide) (by decide)
                · exact ⟨fin _ _ (z2 (nmz_lit (by decide) (by decide)) nh), non⟩
              | say n => exact ⟨fin _ _ (z3i (nmz_lit (by decide) (by decide)) nh (hpr rows hrows n (Or.inl mem))), non⟩
              | goto n => exact ⟨goes n (hpr rows hrows n (Or.inr (Or.inl mem))), non⟩
              | iff a n =>
                refine ⟨goes _ ?_, non⟩
                split
                · exact hpr rows hrows n (Or.inr (Or.inr ⟨a, mem⟩))
                · omega
            · exact ⟨t0, en⟩
        · exact ⟨t0, en⟩
      unfold doHow
      split
      · exact row
      · exact row
      · exact ⟨TZ.tell (d := (draftOf x).setH h _) t0 (z2 (nmz_lit (by decide) (by decide)) nh), fun w e => by cases e⟩
      · split
        · refine ⟨t0, fun w e => ?_⟩
          cases e
          exact nmz_lit (by decide) (by decide)
        · rename_i l el
          split
          · refine ⟨?_, fun w e => ?_⟩
            · show TZ (leave s (draftOf x) h).1
              unfold leave
              split
              · rename_i r' p' hr' hp'
                exact leaveL_t hA _ _ _ (z.setH (r := ⟨r'.row + 1, 0, .out, none⟩) ⟨⟨show (-1 : Int) ≤ 0 by decide, show (0 : Int) ≤ 1 by decide⟩, fun l e => by cases e⟩) t0 hh (hp h p' hp').2
              · exact t0
            · dsimp only at e
              split at e
              · cases e
              · cases e
                exact nmz_lit (by decide) (by decide)
          · exact ⟨TZ.tell (d := (draftOf x).setH h _) t0 (z2 (nmz_lit (by decide) (by decide)) nh), fun w e => by cases e⟩
    dsimp only
    cases hd : doHow s (draftOf x) h r with
    | mk d o =>
      rw [hd] at main
      cases o with
      | none => exact main.1
      | some why =>
        intro e he
        have he : e ∈ [PyData.tuple [.str "idle", .str h, .str why]] := he
        rw [List.mem_singleton.mp he]
        exact z3 (a := "idle") (nmz_lit (by decide) (by decide)) nh (main.2 why rfl)
end NL
/-! == of two dicts whose values are data -/
namespace NL
open PySem L2 Evl
def FD (K : PySem.W.Frag) (H : Hp) (x y : V) (b : Bool) : Prop := ∃ d e, Dp K H x d ∧ Dp K H y e ∧ SeqAt.shaped d = true ∧ SeqAt.shaped e = true ∧ PyData.eqv d e = b
inductive HitD (K : PySem.W.Frag) (H : Hp) (ls : List (Key × V)) : List (Key × V) → Bool → Prop
  | nil : HitD K H ls [] true
  | miss {k : Key} {v : V} {r : List (Key × V)} : valV ls k = none → HitD K H ls ((k, v) :: r) false
  | hit {k : Key} {v u : V} {r : List (Key × V)} {e b : Bool} : valV ls k = some u → FD K H v u e → HitD K H ls r b → HitD K H ls ((k, v) :: r) (e && b)
section
variable {X : Cx} {pins : List (Addr × Obj)} {σ : L2.St} {H : Hp} {s : Shared}
theorem fd_run (I : Inv X pins σ H s) {A : Around} (hu : A.units + 64 < cLine) {x y : V} {v u : Value} {b : Bool} (h : FD X.K H x y b) (rx : RelV x v) (ry : RelV y u) : SeqAt.EqP X.prog X.w A s v u b := by
  obtain ⟨d, e, hd, he, sd, se, rfl⟩ := h
  obtain ⟨as, r1⟩ := Dp.reads I d x v hd rx
  obtain ⟨bs, r2⟩ := Dp.reads I e y u he ry
  exact (SeqAt.eqAt_reads d e A s v u as bs r1 r2 (SeqAt.canLay_of_shaped sd) (SeqAt.canLay_of_shaped se) (SeqAt.room_of_shaped sd hu)).eqP
theorem hitD_run (I : Inv X pins σ H s) {A : Around} (hu : A.units + 64 < cLine) {ls : List (Key × V)} {vb : List (Key × Value)} (rb : KV ls vb) {ks : List (Key × V)} {b : Bool} (hh : HitD X.K H ls ks b) : ∀ {va : List (Key × Value)}, KV ks va → PySem.W.KeqHitsP X.prog X.w A s vb va b := by
  induction hh with
  | nil =>
    intro va ra
    unfold KV at ra
    cases ra
    exact .nil
  | @miss k v r hn =>
    intro va ra
    unfold KV at ra
    cases ra with
    | @cons p q ps qs h t =>
      obtain ⟨key, y⟩ := q
      obtain ⟨h1, h2⟩ := h
      have h1' : k = key := h1
      subst h1'
      have rr : RelO none (valueAt vb k) := by rw [← hn]; exact rb.val k
      refine .miss ?_
      cases z : valueAt vb k with
      | none => rfl
      | some y => rw [z] at rr; exact absurd rr (by intro q; cases q)
  | @hit k v u r e b hy he hr ih =>
    intro va ra
    unfold KV at ra
    cases ra with
    | @cons p q ps qs h t =>
      obtain ⟨key, y⟩ := q
      obtain ⟨h1, h2⟩ := h
      have h1' : k = key := h1
      subst h1'
      have rr : RelO (some u) (valueAt vb k) := by rw [← hy]; exact rb.val k
      obtain ⟨y', hy', ry⟩ := rr.some_of
      exact .hit hy' (fd_run I hu he h2 ry) (ih t)
end
section
variable {X : Cx}
def rEqDD (K : PySem.W.Frag) : R2 := fun x y H Q => ∃ a b ks ls r, x = .ref a ∧ y = .ref b ∧ H a = some (.dK ks) ∧ H b = some (.dK ls) ∧ HitD K H ls ks r ∧ Q (.bl (ks.length == ls.length && r)) H
theorem eqDDK {K : PySem.W.Frag} (hK : X.K = K) (hu : X.A.units + 70 < cLine) : OpR X (compareOp .Eq) (rEqDD K) := by
  subst hK
  intro pins s σ H x y v u Q I rx ry h
  obtain ⟨a, b, ks, ls, r, rfl, rfl, ha, hb, hh, q⟩ := h
  cases (show v = Value.ref a from rx)
  cases (show u = Value.ref b from ry)
  obtain ⟨_, ya, va, ra, da⟩ := (show ObjOk X.prog X.w H s.heap a (.dK ks) from I.hok a _ ha)
  obtain ⟨_, yb, vb, rb, db⟩ := (show ObjOk X.prog X.w H s.heap b (.dK ls) from I.hok b _ hb)
  refine PySem.W.rcP_dicts (knd := mixKind X.prog X.w) (r := r) ya yb da db (by omega) (fun _ => hitD_run I (A := X.A.in1) (by show X.A.units + 1 + 64 < cLine; omega) rb hh ra) _ _ ?_
  have e1 : ks.length = va.length := ra.length
  have e2 : ls.length = vb.length := rb.length
  rw [← e1, ← e2]
  exact ⟨.bl _, H, I, rfl, q⟩
end
/-! ### houses' rows as data -/
section
variable {K : PySem.W.Frag} {H : Hp}
def optD : Option Int → PyData
  | none => .none
  | some i => .int i
def optDS : Option Str → PyData
  | none => .none
  | some m => .str m
def hrD (r : HR) : PyData := .tuple [.int r.row, .int r.last, .str r.how.str, optD r.looks]
def plD (p : Str × Bool) : PyData := .tuple [.str p.1, .bool p.2]
def grD (g : GR) : PyData := .tuple [optDS g.holder, .int g.count, .tuple (g.places.map plD)]
theorem optI_dp (o : Option Int) : Dp K H (optI o) (optD o) := by
  cases o
  · exact .non
  · exact .int _
theorem optS_dp (o : Option Str) : Dp K H (optS o) (optDS o) := by
  cases o
  · exact .non
  · exact .str _
theorem HV.dp {v : V} {r : HR} (h : HV K H v r) : Dp K H v (hrD r) := by
  obtain ⟨a, rfl, st⟩ := h
  exact .tup st (.cons (.int _) (.cons (.int _) (.cons (.str _) (.cons (optI_dp _) .nil))))
theorem pls_dp : ∀ {xs : List V} {ps : List (Str × Bool)}, Paired (PlV K H) xs ps → DpAll K H xs (ps.map plD)
  | _, _, .nil => .nil
  | _, _, .cons h t => by
    obtain ⟨a, rfl, st⟩ := h
    exact .cons (.tup st (.cons (.str _) (.cons (.bl _) .nil))) (pls_dp t)
theorem GV.dp {v : V} {g : GR} (h : GV K H v g) : Dp K H v (grD g) := by
  obtain ⟨a, u, rfl, st, b, xs, rfl, st2, pd⟩ := h
  exact .tup st (.cons (optS_dp _) (.cons (.int _) (.cons (.tup st2 (pls_dp pd)) .nil)))
end
end NL
/-! == and != of two objects of one class, its own __eq__ -/
namespace NL
open PySem L2 Evl PySem.Spec PyProof.Rows
section
variable {M : Model} {prog : Program} {w : World} {A : Around} {E : Value → Shared → Prop} {s : Shared} {K : PySem.W.Frag} {x C f : Addr} {y : Value} {ox : Obj} {od : Option Obj}
theorem ifBound_objNe {args : List Value} {Q : Option Value → Shared → Prop} (X : K.In s.heap) (I : PySem.W.InstAt s.heap x ox C od) (hs : PySem.W.findIn K (.ref C) "__ne__" = some (some (.builtin "object.__ne__")))
    (h : wpAny M A (call (.builtin "object.__ne__") (.ref x :: args)) (fun v => Q (some v)) E s) : wpAny M A (callSpecialIfBound? (.ref x) "__ne__" args) Q E s := by
  simp only [callSpecialIfBound?, bindSpecialIfBound?]
  refine wpAny_holding (wpAny_bind (wpAny_bind (wpAny_bind (I.type.here ((PySem.W.looks_findIn X hs).here ?_)))))
  refine wpAny_bind (wpAny_askSetting (wpAny_ite ?_))
  have fin : wpAny M A (call (.builtin "object.__ne__") ([.ref x] ++ args) >>= fun v => pure (some v)) Q E s := wpAny_bind (wpAny_mono h (fun v s' h' => wpAny_pure h') fun _ _ h' => h')
  split
  · exact wpAny_bind (wpAny_of_eq (F.cmp_object.ne.bind _) (wpAny_pure (by exact fin)))
  · exact wpAny_tryCatch (wpAny_bind (wpAny_of_eq (F.cmp_object.ne.bind _) (wpAny_pure (by exact fin))))
theorem objNe_entry {Q : Fin → Shared → Prop} (X : K.In s.heap) (I : PySem.W.InstAt s.heap x ox C od) (hs : PySem.W.findIn K (.ref C) "__eq__" = some (some (.ref f))) (hf : PySem.W.isFn K (.ref f) = true) (hu : A.units < cLine)
    (hcall : wpAny (model prog w) A (call (.ref f) [.ref x, y]) (fun v s' => ∃ b, v = .bool b ∧ Q (.done (.ret (.bool (!b)))) s') E s) :
    wpAny (model prog w) A (Builtin.«object.__ne__» ⟨[.ref x, y], []⟩) Q E s := by
  unfold Builtin.«object.__ne__»
  repeat (first
    | with_reducible refine wpAny_cRoomFor hu ?_
    | (refine wpAny_bind (m := callSpecialIfBound? (.ref x) (Str.ofString "__eq__") [y])
        (PySem.W.ifBound_K X I hs hf (wpAny_mono hcall (fun r s' hr => by
          obtain ⟨b, rfl, hq⟩ := hr
          repeat (first | exact hq | exact wpAny_pure hq | exact wpAny_truthy_bool hq | (refine wpAny_bind (m := truthy (.bool _)) (wpAny_truthy_bool ?_)) | wp_step)) fun _ _ e => e)))
    | wp_step)
theorem rc_neO {Q : Value → Shared → Prop} {b : Addr} {ob : Obj} {odb : Option Obj} (hu : A.units + 1 < cLine) (X : K.In s.heap) (I : PySem.W.InstAt s.heap x ox C od) (J : PySem.W.InstAt s.heap b ob C odb) (hm : PySem.W.mroIn K C (.type "object") = some true)
    (hn : PySem.W.findIn K (.ref C) "__ne__" = some (some (.builtin "object.__ne__"))) (hs : PySem.W.findIn K (.ref C) "__eq__" = some (some (.ref f))) (hf : PySem.W.isFn K (.ref f) = true)
    (hcall : wpAny (model prog w) A.in1 (call (.ref f) [.ref x, .ref b]) (fun v s' => ∃ c, v = .bool c ∧ Q (.bool (!c)) s') E s) : wpAny (model prog w) A (richCompare .NotEq (.ref x) (.ref b)) Q E s := by
  have one : wpAny (model prog w) A (tryCompare (.ref x) "__ne__" (.ref b)) (fun r s' => ∃ v, r = some v ∧ Q v s') E s := by
    unfold tryCompare
    refine wpAny_bind (ifBound_objNe X I hn (wpAny_call (codeAny_call_builtin F.cmp_object.ne.plain F.cmpEntry_ne (PySem.W.check_slot F.cmpKind_ne F.cmpSplit_ne (I.type.andThen (PySem.W.looks_mroIn X hm)) (F.cmpArgs_ne _ _) (objNe_entry (A := A.in1) X I hs hf hu (wpAny_mono hcall (fun v s' hv => ?_) fun _ _ e => e))))))
    obtain ⟨c, rfl, hq⟩ := hv
    first | exact ⟨c, rfl, wpAny_pure ⟨_, rfl, hq⟩⟩ | exact ⟨c, rfl, wpAny_pure (wpAny_pure ⟨_, rfl, hq⟩)⟩
  unfold richCompare
  simp only [oneThing_ref]
  refine wpAny_holding (wpAny_bind (wpAny_cRoomFor (Nat.lt_of_succ_lt hu) ?_))
  rw [cmpInfo_NotEq]
  dsimp only
  refine wpAny_bind (I.type.here (wpAny_bind (J.type.here ?_)))
  rw [show (Value.ref C != Value.ref C) = false from by simp]
  simp only [Bool.false_eq_true, if_false]
  refine wpAny_bind (wpAny_pure ?_)
  simp only [Bool.false_eq_true, if_false]
  refine wpAny_bind (wpAny_mono one (fun r s' z => ?_) fun _ _ e => e)
  obtain ⟨v, rfl, hq⟩ := z
  exact wpAny_pure hq
end
section
variable {X : Cx} {CX : CXT} {k : Nat} {C f : Addr} {fd : FuncData} {ps : List Str} {sp : Sp} {Z : XK}
def rCmpO (C : Addr) (sp : Sp) (Z : XK) (g : Bool → Bool) : R2 := fun x y H Q => ∃ a b dx dy fs gs, x = .ref a ∧ y = .ref b ∧ H a = some (.ins C dx fs) ∧ H b = some (.ins C dy gs) ∧ sp [.ref a, .ref b] H (fun v H' => ∃ c, v = .bl c ∧ Q (.bl (g c)) H') Z
theorem own_eq (F : FnOk X.prog X.w X.K X.mg X.base CX k f fd ps sp) (hs : PySem.W.findIn X.K (.ref C) "__eq__" = some (some (.ref f))) (hf : PySem.W.isFn X.K (.ref f) = true) (hr : Room (k + 1) X.A) (hb : Binds X.K fd ps []) (hx : Passes CX X Z) :
    OpR X (compareOp .Eq) (rCmpO C sp Z id) := by
  intro pins s σ H x y v u Q I rx ry h
  obtain ⟨a, b, dx, dy, fs, gs, rfl, rfl, ha, hb', q⟩ := h
  cases rx
  cases ry
  obtain ⟨mA, J, _⟩ := ins_get I.hok ha
  obtain ⟨mB, J', _⟩ := ins_get I.hok hb'
  obtain ⟨od, J, _⟩ := J.look
  obtain ⟨od', J', _⟩ := J'.look
  obtain ⟨m, hF⟩ := I.fr
  refine PySem.W.cmp_K (op := .Eq) (tb := .ref C) (hr.mono (Nat.zero_le _)).units0 hF I.ok.mod.kin J J'.type (by simp [PySem.W.notFirst]) hs hf ?_
  have l1 : ([V.ref a, V.ref b] : List V).length = ps.length := F.len _ _ _ _ q
  refine wpAny_call (codeAny_mono (F.run X.A X.stack s H ⟨[.ref a, .ref b], []⟩ [.ref a, .ref b] [.ref a, .ref b] _ Z (hr.mono (Nat.le_succ k)) I.env0 ?_ (.cons rfl (.cons rfl .nil)) q) fun r s' hq => ?_)
  · have := hb s [.ref a, .ref b] I.kIn (by simpa using l1)
    simpa using this
  · cases r with
    | error e => exact hx pins σ H s e s' I hq
    | ok fl =>
      cases fl with
      | ret w =>
        obtain ⟨z, H', I', rz, c, ez, q'⟩ := I.after hq
        subst ez
        cases rz
        exact ⟨.bl c, H', I', rfl, q'⟩
      | next => exact hq.elim
      | brk => exact hq.elim
      | cont => exact hq.elim
theorem own_ne (F : FnOk X.prog X.w X.K X.mg X.base CX k f fd ps sp) (hs : PySem.W.findIn X.K (.ref C) "__eq__" = some (some (.ref f))) (hf : PySem.W.isFn X.K (.ref f) = true) (hm : PySem.W.mroIn X.K C (.type "object") = some true) (hn : PySem.W.findIn X.K (.ref C) "__ne__" = some (some (.builtin "object.__ne__"))) (hr : Room (k + 1) X.A) (hu : X.A.units + 1 < cLine) (hb : Binds X.K fd ps []) (hx : Passes CX X Z) :
    OpR X (compareOp .NotEq) (rCmpO C sp Z not) := by
  intro pins s σ H x y v u Q I rx ry h
  obtain ⟨a, b, dx, dy, fs, gs, rfl, rfl, ha, hb', q⟩ := h
  cases rx
  cases ry
  obtain ⟨mA, J, _⟩ := ins_get I.hok ha
  obtain ⟨mB, J', _⟩ := ins_get I.hok hb'
  obtain ⟨od, J, _⟩ := J.look
  obtain ⟨od', J', _⟩ := J'.look
  show wpAny (model X.prog X.w) X.A (richCompare .NotEq (.ref a) (.ref b)) (EP X pins σ Q) X.xe s
  refine rc_neO hu I.kIn J J' hm hn hs hf ?_
  have l1 : ([V.ref a, V.ref b] : List V).length = ps.length := F.len _ _ _ _ q
  refine wpAny_call (codeAny_mono (F.run X.A.in1 X.stack s H ⟨[.ref a, .ref b], []⟩ [.ref a, .ref b] [.ref a, .ref b] _ Z hr.in1 I.env0.in1 ?_ (.cons rfl (.cons rfl .nil)) q) fun r s' hq => ?_)
  · have := hb s [.ref a, .ref b] I.kIn (by simpa using l1)
    simpa using this
  · cases r with
    | error e => exact hx pins σ H s e s' I hq
    | ok fl =>
      cases fl with
      | ret w =>
        obtain ⟨z, H', I', rz, c, ez, q'⟩ := I.after hq
        subst ez
        cases rz
        exact ⟨c, rfl, .bl (!c), H', I', rfl, q'⟩
      | next => exact hq.elim
      | brk => exact hq.elim
      | cont => exact hq.elim
end
end NL
/-! str(x), the class has __str__ -/
namespace NL
open PySem L2 Evl PySem.Spec PyProof.Rows
end NL
/-! what a step tells, as data that can be compared and shown -/
namespace NL
open PySem L2 Evl
mutual
theorem dy_dp {K : PySem.W.Frag} {H : Hp} : ∀ (d : PyData) (v : V), tupOnly d = true → Dy K H v d → Dp K H v d
  | .none, _, _, h => by cases h; exact .non
  | .bool b, _, _, h => by cases h; exact .bl b
  | .int i, _, _, h => by cases h; exact .int i
  | .str x, _, _, h => by cases h; exact .str x
  | .list ds, _, t, _ => by cases t
  | .dict ds, _, t, _ => by cases t
  | .tuple ds, _, t, h => by
    cases h with
    | tup hs ha => exact .tup hs (dya_dp ds _ t ha)
theorem dya_dp {K : PySem.W.Frag} {H : Hp} : ∀ (ds : List PyData) (vs : List V), tupOnlys ds = true → DyAll K H vs ds → DpAll K H vs ds
  | [], _, _, h => by cases h; exact .nil
  | d :: ds, _, t, h => by
    have t : (tupOnly d && tupOnlys ds) = true := t
    rw [Bool.and_eq_true] at t
    cases h with
    | cons a b => exact .cons (dy_dp d _ t.1 a) (dya_dp ds _ t.2 b)
end
theorem asc_lay {x : Str} (h : asc x) : PyData.strOk x = true := by
  unfold PyData.strOk
  rw [Array.all_eq_true]
  intro i hi
  have := h x.cps[i] (by simp)
  simp
  omega
theorem atz_facts {d : PyData} (h : AtZ d) : d.canLay0 = true ∧ d.depth = 0 ∧ okD 4000000000 d ∧ wt d ≤ 210 ∧ tupOnly d = true := by
  rcases h with ⟨s, rfl, ha, hl⟩ | ⟨i, rfl, hi⟩
  · exact ⟨asc_lay ha, rfl, ha, by simp only [wt]; omega, rfl⟩
  · exact ⟨rfl, rfl, hi, by simp [wt], rfl⟩
theorem atzs_facts : ∀ {ds : List PyData}, (∀ d ∈ ds, AtZ d) → PyData.canLayAll0 ds = true ∧ PyData.depthAll ds = 0 ∧ okDs 4000000000 ds ∧ wts ds ≤ ds.length * 210 ∧ tupOnlys ds = true
  | [], _ => ⟨rfl, rfl, trivial, by simp [wts], rfl⟩
  | d :: ds, h => by
    obtain ⟨a1, a2, a3, a4, a5⟩ := atz_facts (h d List.mem_cons_self)
    obtain ⟨b1, b2, b3, b4, b5⟩ := atzs_facts fun e he => h e (List.mem_cons_of_mem _ he)
    refine ⟨?_, ?_, ⟨a3, b3⟩, ?_, ?_⟩
    · show (PyData.canLay0 d && PyData.canLayAll0 ds) = true
      rw [a1, b1]
      rfl
    · show max (PyData.depth d) (PyData.depthAll ds) = 0
      rw [a2, b2]
      rfl
    · simp only [wts, List.length_cons]
      omega
    · show (tupOnly d && tupOnlys ds) = true
      rw [a5, b5]
      rfl
theorem evz_facts {e : PyData} (h : EvZ e) : e.canLay0 = true ∧ e.depth ≤ 1 ∧ okD 4000000000 e ∧ wt e ≤ 1060 ∧ tupOnly e = true := by
  obtain ⟨ds, rfl, hl, hd⟩ := h
  obtain ⟨b1, b2, b3, b4, b5⟩ := atzs_facts hd
  refine ⟨b1, ?_, b3, ?_, b5⟩
  · show PyData.depthAll ds + 1 ≤ 1
    omega
  · simp only [wt]
    omega
theorem evzs_facts : ∀ {es : List PyData}, (∀ e ∈ es, EvZ e) → PyData.canLayAll0 es = true ∧ PyData.depthAll es ≤ 1 ∧ okDs 4000000000 es ∧ wts es ≤ es.length * 1060 ∧ tupOnlys es = true
  | [], _ => ⟨rfl, by simp [PyData.depthAll], trivial, by simp [wts], rfl⟩
  | d :: ds, h => by
    obtain ⟨a1, a2, a3, a4, a5⟩ := evz_facts (h d List.mem_cons_self)
    obtain ⟨b1, b2, b3, b4, b5⟩ := evzs_facts fun e he => h e (List.mem_cons_of_mem _ he)
    refine ⟨?_, ?_, ⟨a3, b3⟩, ?_, ?_⟩
    · show (PyData.canLay0 d && PyData.canLayAll0 ds) = true
      rw [a1, b1]
      rfl
    · show max (PyData.depth d) (PyData.depthAll ds) ≤ 1
      omega
    · simp only [wts, List.length_cons]
      omega
    · show (tupOnly d && tupOnlys ds) = true
      rw [a5, b5]
      rfl
theorem evs_shaped {es : List PyData} (h : ∀ e ∈ es, EvZ e) : SeqAt.shaped (.tuple es) = true := by
  obtain ⟨b1, b2, _⟩ := evzs_facts h
  unfold SeqAt.shaped
  rw [Bool.and_eq_true]
  refine ⟨b1, decide_eq_true ?_⟩
  show PyData.depthAll es + 1 ≤ 64
  omega
end NL
/-! what stays while lists and objects change; a row of steps -/
namespace NL
open PySem L2 Evl
def Gd (H H' : Hp) : Prop := ∀ a o, H a = some o → (∀ xs, o ≠ .lst xs) → (∀ C d f, o ≠ .ins C d f) → H' a = some o
theorem Gd.refl (H : Hp) : Gd H H := fun _ _ h _ _ => h
theorem Gd.ex {H H' : Hp} (e : Ex H H') : Gd H H' := fun a o h _ _ => e a o h
theorem Gd.trans {H H1 H2 : Hp} (a : Gd H H1) (b : Gd H1 H2) : Gd H H2 := fun x o h n m => b x o (a x o h n m) n m
theorem Gd.bx {H H' : Hp} {h : Addr} {C : Nat} (A : Bx H h C) (k : Kp h h H H') : Gd H H' := fun a o z n _ => by
  obtain ⟨_, _, _, B⟩ := A
  have : a ≠ h := fun y => by
    subst y
    rw [B.hh] at z
    cases z
    exact n _ rfl
  exact k _ _ this this z
theorem Gd.ins {H H' : Hp} {p C dx : Addr} {fs : List (Str × V)} (h : H p = some (.ins C dx fs)) (k : Kp p p H H') : Gd H H' := fun a o z _ n => by
  have : a ≠ p := fun y => by
    subst y
    rw [h] at z
    cases z
    exact n _ _ _ rfl
  exact k _ _ this this z
theorem Gd.lst {H : Hp} {l : Addr} {xs : List V} {o : HO} (h : H l = some (.lst xs)) : Gd H (upd H l o) := fun a u z n _ => by
  have : a ≠ l := fun y => by
    subst y
    rw [h] at z
    cases z
    exact n _ rfl
  rw [upd_ne this]
  exact z
theorem Gd.st {K : PySem.W.Frag} {H H' : Hp} (g : Gd H H') : ST K H H' := fun a xs t => by
  rcases t with (z | ⟨ob, z⟩) | z
  · exact Or.inl (Or.inl (g _ _ z (fun _ y => by cases y) fun _ _ _ y => by cases y))
  · exact Or.inl (Or.inr ⟨ob, g _ _ z (fun _ y => by cases y) fun _ _ _ y => by cases y⟩)
  · exact Or.inr z
theorem Gd.tk {H H' : Hp} (g : Gd H H') : TK H H' := fun a xs z => g _ _ z (fun _ y => by cases y) fun _ _ _ y => by cases y
theorem Sy.gd {K : PySem.W.Frag} {H H' : Hp} (y : Sy K H) (g : Gd H H') : Sy K H' := by
  rcases y with y | ⟨o, u, y⟩
  · exact Or.inl y
  · exact Or.inr ⟨o, u, g _ _ y (fun _ z => by cases z) fun _ _ _ z => by cases z⟩
theorem Dm.gd {α : Type} {R S : V → α → Prop} {H H' : Hp} {d : Addr} {xs : List (Str × α)} (h : Dm R H d xs) (g : Gd H H') (s : ∀ v x, R v x → S v x) : Dm S H' d xs := by
  obtain ⟨kvs, e⟩ := h.dk
  exact h.st (fun o z => by rw [e] at z; cases z; exact g _ _ e (fun _ y => by cases y) fun _ _ _ y => by cases y) s
theorem HoAt.gd {K : PySem.W.Frag} {C : Addr} {H H' : Hp} {B : HoA} {s : Sta} {x : SH} (h : HoAt K C H B s x) (g : Gd H H') (ob : ∀ o, H B.p = some o → H' B.p = some o) : HoAt K C H' B s x :=
  ⟨ob _ h.ob, h.pa.gd g fun _ _ z => z.st g.st, h.bo.gd g fun _ _ z => z, h.pr.gd g fun _ _ z => z.st g.st, h.hs.gd g fun _ _ z => z.st g.st, h.gs.gd g fun _ _ z => z.st g.st⟩
theorem EvsV.gd {K : PySem.W.Frag} {H H' : Hp} {v : V} {es : List PyData} (h : EvsV K H v es) (g : Gd H H') : EvsV K H' v es := by
  obtain ⟨t, vs, rfl, h1, h2⟩ := h
  exact ⟨t, vs, rfl, g.tk _ _ h1, paired_mono (fun _ _ z => z.st g.st) h2⟩
theorem evs_dy {K : PySem.W.Frag} {H : Hp} : ∀ {vs : List V} {es : List PyData}, Paired (EvV K H) vs es → DyAll K H vs es ∧ tupOnlys es = true
  | _, _, .nil => ⟨.nil, rfl⟩
  | _, _, .cons h t => by
    obtain ⟨i1, i2⟩ := evs_dy t
    refine ⟨.cons h.1 i1, ?_⟩
    show (tupOnly _ && tupOnlys _) = true
    rw [h.2, i2]
    rfl
theorem EvsV.dy {K : PySem.W.Frag} {H : Hp} {v : V} {es : List PyData} (h : EvsV K H v es) : Dy K H v (.tuple es) ∧ tupOnly (.tuple es) = true := by
  obtain ⟨t, vs, rfl, h1, h2⟩ := h
  obtain ⟨i1, i2⟩ := evs_dy h2
  exact ⟨.tup (st_of h1) i1, i2⟩
theorem EvsV.dp {K : PySem.W.Frag} {H : Hp} {v : V} {es : List PyData} (h : EvsV K H v es) : Dp K H v (.tuple es) := dy_dp _ _ h.dy.2 h.dy.1
/-! a row of steps -/
end NL
/-! methods of lists within a comprehension; a dict brought up to date -/
namespace NL
open PySem L2 Evl PySem.Spec PyProof.Rows
/-! dict(l), l a list of pairs -/
end NL
/-! literals of tuples; shapes of nested lists -/
namespace NL
open PySem L2 Evl
mutual
def litE : PyData → TE
  | .int i => tC (.int i)
  | .str s => tC (.str s)
  | .bool b => tC (.bl b)
  | .tuple ds => tTup (litA ds)
  | _ => tC .non
def litA : List PyData → TA
  | [] => tNil
  | d :: ds => tCons (litE d) (litA ds)
end
mutual
def litOk : PyData → Bool
  | .none => true
  | .int _ => true
  | .str _ => true
  | .bool _ => true
  | .tuple ds => decide (ds.length ≤ 1000) && litOks ds
  | _ => false
def litOks : List PyData → Bool
  | [] => true
  | d :: ds => litOk d && litOks ds
end
theorem dya_ln {K : PySem.W.Frag} {H : Hp} : ∀ {vs : List V} {ds : List PyData}, DyAll K H vs ds → vs.length = ds.length
  | _, _, .nil => rfl
  | _, _, .cons _ t => by rw [List.length_cons, List.length_cons, dya_ln t]
/-! shapes -/
inductive Sh where
  | leaf
  | nd (ss : List Sh)
mutual
def Sh.e : Sh → TE
  | .leaf => tC (.int 0)
  | .nd ss => tLst (shA ss)
def shA : List Sh → TA
  | [] => tNil
  | s :: ss => tCons s.e (shA ss)
end
mutual
def Sh.size : Sh → Nat
  | .leaf => 1
  | .nd ss => sizesS ss + 1
def sizesS : List Sh → Nat
  | [] => 0
  | s :: ss => s.size + sizesS ss
end
mutual
def Sh.deep : Sh → Nat
  | .leaf => 0
  | .nd ss => deepsS ss + 1
def deepsS : List Sh → Nat
  | [] => 0
  | s :: ss => max s.deep (deepsS ss)
end
mutual
def Sh.ok : Sh → Bool
  | .leaf => true
  | .nd ss => !ss.isEmpty && oksS ss
def oksS : List Sh → Bool
  | [] => true
  | s :: ss => s.ok && oksS ss
end
/-! a plan of a shape -/
end NL
/-! literals with their sizes; literal plans -/
namespace NL
open PySem L2 Evl
end NL
/-! two data of tuples, compared -/
namespace NL
open PySem L2 Evl
/-! f() where no repr is under way -/
/-! a literal row of names -/
end NL
/-! a written tuple: an object that is known to have no dict of its own -/
namespace NL
open PySem L2 Evl
end NL
/-! literals with values in them -/
namespace NL
open PySem L2 Evl
inductive LT where
  | c (d : PyData)
  | x (te : TE) (v : V)
  | tup (ts : List LT)
mutual
def LT.e : LT → TE
  | .c d => litE d
  | .x te _ => te
  | .tup ts => tTup (ltA ts)
def ltA : List LT → TA
  | [] => tNil
  | t :: ts => tCons t.e (ltA ts)
end
def flatL : V → Option PyData
  | .non => some .none
  | .int i => some (.int i)
  | .str s => some (.str s)
  | .bl b => some (.bool b)
  | _ => none
mutual
def LT.d : LT → PyData
  | .c d => d
  | .x _ v => (flatL v).getD .none
  | .tup ts => .tuple (ltD ts)
def ltD : List LT → List PyData
  | [] => []
  | t :: ts => t.d :: ltD ts
end
mutual
def LT.ok (σ : L2.St) (H : Hp) : LT → Prop
  | .c d => litOk d = true
  | .x te v => Ev te σ H v ∧ (flatL v).isSome = true
  | .tup ts => ts.length ≤ 1000 ∧ ltOk σ H ts
def ltOk (σ : L2.St) (H : Hp) : List LT → Prop
  | [] => True
  | t :: ts => t.ok σ H ∧ ltOk σ H ts
end
end NL
/-! what a step tells, by the kinds of events; a step that idles changes nothing, and tells that alone -/
namespace NL
open PySem L2 Evl
def hdE : PyData → Str
  | .tuple (.str s :: _) => s
  | _ => ""
structure Kinds (G : PyData → Prop) : Prop where
  came : ∀ m, G (e2 "came" m)
  held : ∀ m g, G (e3 "held" m g)
  stood : ∀ m g, G (e3 "stood" m g)
  passed : ∀ m g, G (e3 "passed" m g)
  handed : ∀ m g (y : { y : Str // y = "near" ∨ y = "over" ∨ y = "left" }), G (e4 "handed" m g y.1)
  bare : ∀ g, G (e2 "bare" g)
  let_ : ∀ m, G (e2 "let" m)
  left : ∀ m, G (e2 "left" m)
  lack : ∀ m, G (e2 "lack" m)
  no : ∀ m, G (e2 "no" m)
  said : ∀ m i, G (e3i "said" m i)
  went : ∀ m i, G (e3i "went" m i)
  tied : ∀ m, G (e2 "tied" m)
  looked : ∀ m, G (e2 "looked" m)
def NI (G : PyData → Prop) (d : DS) : Prop := ∀ e ∈ d.told, G e
section
variable {G : PyData → Prop}
theorem NI.tell {d : DS} {e : PyData} (h : NI G d) (he : G e) : NI G (d.tell e) := fun x hx => by
  have hx : x ∈ d.told ++ [e] := hx
  rcases List.mem_append.mp hx with z | z
  · exact h x z
  · rw [List.mem_singleton.mp z]
    exact he
theorem came_i (K : Kinds G) {d : DS} {m : Str} (h : NI G d) : NI G (came d m) := by
  unfold came
  split
  · exact NI.tell (G := G) (d := d.setH m _) h (K.came _)
  · exact h
theorem give_i (K : Kinds G) : ∀ (k : Nat) (d : DS) (m : Str), NI G d → NI G (giveLock k d m)
  | 0, d, m, h => h
  | k + 1, d, m, h => by
    unfold giveLock
    split
    · exact give_i K k _ _ h
    · exact came_i K h
theorem add_i (K : Kinds G) {d : DS} {m g : Str} (h : NI G d) : NI G (addPlace d m g) := by
  unfold addPlace
  split
  · exact h
  · exact h
theorem standL_i (K : Kinds G) {hand : Str} {r : HR} {l : Option Int} : ∀ (p : List Str) (d : DS) (m : Str), NI G d → NI G (standL hand r l d m p)
  | [], d, m, h => give_i K _ _ _ h
  | g :: p, d, m, h => by
    unfold standL
    split
    · have t := NI.tell (G := G) (e := e3 "stood" m g) (add_i K (m := m) (g := g) h) (K.stood _ _)
      split
      · split
        · exact t
        · exact t
      · exact standL_i K p _ g (NI.tell (G := G) (d := d.setG g _) h (K.held _ _))
    · exact h
theorem stand_i (K : Kinds G) {s : Sta} {d : DS} {hand : Str} {l : Option Int} (h : NI G d) : NI G (stand s d hand l) := by
  unfold stand
  split
  · exact standL_i K _ _ _ h
  · exact h
theorem pass_i (K : Kinds G) {d : DS} {g : Str} (h : NI G d) : NI G (passLeft d g).1 := by
  unfold passLeft
  split
  · rename_i r hr
    have t : ∀ e ∈ d.told ++ (r.places.takeWhile fun p => !p.2).map fun p => e3 "passed" p.1 g, G e := fun e he => by
      rcases List.mem_append.mp he with q | q
      · exact h e q
      · obtain ⟨p, hp, rfl⟩ := List.mem_map.mp q
        exact (K.passed _ _)
    dsimp only
    split
    · exact t
    · exact t
  · exact h
theorem on_i (K : Kinds G) {d : DS} {g why : Str} {c : Int} (hw : why = "near" ∨ why = "over" ∨ why = "left") (h : NI G d) : NI G (handOn d g why c).1 := by
  unfold handOn
  split
  · split
    · exact NI.tell (G := G) (d := d.setG g _) h (K.handed _ _ ⟨why, hw⟩)
    · exact h
  · exact h
theorem near_i (K : Kinds G) {d : DS} {g : Str} {top : Bool} (h : NI G d) : NI G (handNear d g top) := give_i K _ _ _ (on_i K (Or.inl rfl) h)
theorem over_i (K : Kinds G) {d : DS} {g a : Str} (h : NI G d) : NI G (handOver d g a) := add_i K (on_i K (Or.inr (Or.inl rfl)) h)
theorem bare_i (K : Kinds G) {d : DS} {g : Str} (h : NI G d) : NI G (makeBare d g) := NI.tell (G := G) (d := d.setG g _) h (K.bare _)
theorem letL_i (K : Kinds G) (s : Sta) : ∀ (p : List Str) (d : DS), NI G d → NI G (letGoL s d p).1
  | [], d, h => h
  | g :: p, d, h => by
    have t1 := pass_i K (g := g) h
    unfold letGoL
    split
    · rename_i d1 e
      rw [e] at t1
      exact letL_i K s p _ (bare_i K t1)
    · rename_i d1 m e
      rw [e] at t1
      split
      · exact t1
      · split
        · exact near_i K t1
        · exact letL_i K s p _ (over_i K t1)
theorem letGo_i (K : Kinds G) {s : Sta} {d : DS} {hand : Str} (h : NI G d) : NI G (letGo s d hand).1 := by
  unfold letGo
  split
  · exact letL_i K _ _ _ (NI.tell (G := G) (d := d.setH hand _) h (K.let_ _))
  · exact h
theorem leaveL_i (K : Kinds G) : ∀ (p : List Str) (d : DS) (m : Str), NI G d → NI G (leaveL d m p).1
  | [], d, m, h => h
  | g :: p, d, m, h => by
    have t0 : NI G (d.tell (e2 "left" m)) := h.tell (K.left _)
    unfold leaveL
    split
    · exact h
    · split
      · exact t0
      · have t1 := pass_i K (d := d.tell (e2 "left" m)) (g := g) t0
        split
        · rename_i d1 e
          rw [e] at t1
          exact leaveL_i K p _ g (bare_i K t1)
        · rename_i d1 f e
          rw [e] at t1
          split
          · exact t1
          · exact on_i K (Or.inr (Or.inr rfl)) t1
theorem leave_i (K : Kinds G) {s : Sta} {d : DS} {hand : Str} (h : NI G d) : NI G (leave s d hand).1 := by
  unfold leave
  split
  · exact leaveL_i K _ _ _ h
  · exact h
theorem finish_i (K : Kinds G) {d : DS} {h : Str} {l : Int} {e : PyData} (hd : NI G d) (he : G e) : NI G (finish d h l e) := by
  unfold finish
  split
  · exact NI.tell (G := G) (d := d.setH h _) hd he
  · exact hd
theorem goTo_i (K : Kinds G) {d : DS} {h : Str} {n : Int} (hd : NI G d) : NI G (goTo d h n) := by
  unfold goTo
  split
  · exact NI.tell (G := G) (d := d.setH h _) hd (K.went _ _)
  · exact hd
theorem act_i (K : Kinds G) {s : Sta} {d : DS} {h : Str} {r : HR} (hd : NI G d) : ∀ row : Row, NI G (doAct s d h r row).1
  | .take l => by
    simp only [doAct]
    split
    · exact finish_i K hd (K.lack _)
    · exact stand_i K hd
  | .tri => by
    simp only [doAct]
    split
    · exact finish_i K hd (K.lack _)
    · split
      · exact stand_i K hd
      · exact finish_i K hd (K.no _)
  | .let_ => by
    simp only [doAct]
    split
    · exact letGo_i K hd
    · exact finish_i K hd (K.lack _)
  | .say n => finish_i K hd (K.said _ _)
  | .goto n => goTo_i K hd
  | .iff a n => goTo_i K hd
theorem row_i (K : Kinds G) {s : Sta} {d : DS} {h : Str} {r : HR} (hd : NI G d) : NI G (doRow s d h r).1 := by
  unfold doRow
  split
  · split
    · exact hd
    · split
      · exact act_i K hd _
      · exact hd
  · exact hd
theorem how_i (K : Kinds G) {s : Sta} {d : DS} {h : Str} {r : HR} (hd : NI G d) : NI G (doHow s d h r).1 := by
  unfold doHow
  split
  · exact row_i K hd
  · exact row_i K hd
  · exact NI.tell (G := G) (d := d.setH h _) hd (K.tied _)
  · split
    · exact hd
    · split
      · exact leave_i K hd
      · exact NI.tell (G := G) (d := d.setH h _) hd (K.looked _)
end
def GE (e : PyData) : Prop := ∃ z r, e = .tuple (.str z :: r) ∧ z ≠ "idle"
theorem w_came : (Str.ofString "came") ≠ Str.ofString "idle" := by decide +kernel
theorem w_held : (Str.ofString "held") ≠ Str.ofString "idle" := by decide +kernel
theorem w_stood : (Str.ofString "stood") ≠ Str.ofString "idle" := by decide +kernel
theorem w_passed : (Str.ofString "passed") ≠ Str.ofString "idle" := by decide +kernel
theorem w_handed : (Str.ofString "handed") ≠ Str.ofString "idle" := by decide +kernel
theorem w_bare : (Str.ofString "bare") ≠ Str.ofString "idle" := by decide +kernel
theorem w_let : (Str.ofString "let") ≠ Str.ofString "idle" := by decide +kernel
theorem w_left : (Str.ofString "left") ≠ Str.ofString "idle" := by decide +kernel
theorem w_lack : (Str.ofString "lack") ≠ Str.ofString "idle" := by decide +kernel
theorem w_no : (Str.ofString "no") ≠ Str.ofString "idle" := by decide +kernel
theorem w_said : (Str.ofString "said") ≠ Str.ofString "idle" := by decide +kernel
theorem w_went : (Str.ofString "went") ≠ Str.ofString "idle" := by decide +kernel
theorem w_tied : (Str.ofString "tied") ≠ Str.ofString "idle" := by decide +kernel
theorem w_looked : (Str.ofString "looked") ≠ Str.ofString "idle" := by decide +kernel
theorem kinds_ge : Kinds GE := ⟨fun _ => ⟨_, _, rfl, w_came⟩, fun _ _ => ⟨_, _, rfl, w_held⟩, fun _ _ => ⟨_, _, rfl, w_stood⟩, fun _ _ => ⟨_, _, rfl, w_passed⟩, fun _ _ _ => ⟨_, _, rfl, w_handed⟩, fun _ => ⟨_, _, rfl, w_bare⟩, fun _ => ⟨_, _, rfl, w_let⟩, fun _ => ⟨_, _, rfl, w_left⟩, fun _ => ⟨_, _, rfl, w_lack⟩, fun _ => ⟨_, _, rfl, w_no⟩, fun _ _ => ⟨_, _, rfl, w_said⟩, fun _ _ => ⟨_, _, rfl, w_went⟩, fun _ => ⟨_, _, rfl, w_tied⟩, fun _ => ⟨_, _, rfl, w_looked⟩⟩
end NL
/-! how many events a step tells at most; who comes by it -/
namespace NL
open PySem L2 Evl
/-! ### how many -/
def PLe (gs : List (Str × GR)) (N : Nat) : Prop := ∀ g r, getN gs g = some r → r.places.length ≤ N
theorem PLe.set {gs : List (Str × GR)} {N : Nat} {g : Str} {v : GR} (h : PLe gs N) (hv : v.places.length ≤ N) : PLe (setN gs g v) N := ln_set h hv
theorem PLe.mono {gs : List (Str × GR)} {N M : Nat} (h : PLe gs N) (hm : N ≤ M) : PLe gs M := fun g r hg => Nat.le_trans (h g r hg) hm
end NL
/-! who comes by a step -/
namespace NL
open PySem L2 Evl
def cameD : PyData → Option Str
  | .tuple (.str z :: .str m :: _) => if z = "came" then some m else none
  | _ => none
def comesD (es : List PyData) : List Str := es.filterMap cameD
def tkD (e : PyData) : Prop := hdE e = "handed" ∨ hdE e = "held"
structure NoC (d : DS) : Prop where
  no : comesD d.told = []
structure CQ (d : DS) : Prop where
  c : comesD d.told = [] ∨ ∃ m r, comesD d.told = [m] ∧ getN d.hs m = some r ∧ r.how = .within ∧ ∃ e ∈ d.told, tkD e
theorem comes_app (a b : List PyData) : comesD (a ++ b) = comesD a ++ comesD b := by
  unfold comesD
  rw [List.filterMap_append]
theorem NoC.q {d : DS} (h : NoC d) : CQ d := ⟨Or.inl h.no⟩
theorem NoC.tell {d : DS} {e : PyData} (h : NoC d) (he : cameD e = none) : NoC (d.tell e) := ⟨by
  show comesD (d.told ++ [e]) = []
  rw [comes_app, h.no]
  unfold comesD
  simp [he]⟩
end NL
/-! a step tells something -/
namespace NL
open PySem L2 Evl
abbrev tl (d : DS) : Nat := d.told.length
theorem tell_ge {d d' : DS} {e : PyData} (h : tl d ≤ tl d') : tl d + 1 ≤ tl (d'.tell e) := by
  show d.told.length + 1 ≤ (d'.told ++ [e]).length
  rw [List.length_append, List.length_singleton]
  exact Nat.succ_le_succ h
theorem came_ge {d : DS} {m : Str} : tl d ≤ tl (came d m) := by
  unfold came
  split
  · exact Nat.le_of_succ_le (tell_ge (d := d) (d' := d.setH m _) (Nat.le_refl _))
  · exact Nat.le_refl _
theorem give_ge : ∀ (k : Nat) (d : DS) (m : Str), tl d ≤ tl (giveLock k d m)
  | 0, d, m => Nat.le_refl _
  | k + 1, d, m => by
    unfold giveLock
    split
    · exact give_ge k (d.setG m _) _
    · exact came_ge
theorem add_ge {d : DS} {m g : Str} : tl d ≤ tl (addPlace d m g) := by
  unfold addPlace
  split
  · exact Nat.le_refl _
  · exact Nat.le_refl _
theorem standL_ge {hand : Str} {r : HR} {l : Option Int} : ∀ (p : List Str) (d : DS) (m : Str), tl d ≤ tl (standL hand r l d m p)
  | [], d, m => give_ge _ _ _
  | g :: p, d, m => by
    unfold standL
    split
    · split
      · split
        · exact Nat.le_of_succ_le (tell_ge add_ge)
        · exact Nat.le_of_succ_le (tell_ge add_ge)
      · refine Nat.le_trans ?_ (standL_ge p _ g)
        exact Nat.le_of_succ_le (tell_ge (d := d) (d' := d.setG g _) (Nat.le_refl _))
    · exact Nat.le_refl _
theorem pass_ge {d : DS} {g : Str} : tl d ≤ tl (passLeft d g).1 := by
  unfold passLeft
  split
  · dsimp only
    split
    · show d.told.length ≤ (d.told ++ _).length
      rw [List.length_append]
      omega
    · show d.told.length ≤ (d.told ++ _).length
      rw [List.length_append]
      omega
  · exact Nat.le_refl _
theorem on_ge {d : DS} {g why : Str} {c : Int} : tl d ≤ tl (handOn d g why c).1 := by
  unfold handOn
  split
  · split
    · exact Nat.le_of_succ_le (tell_ge (d := d) (d' := d.setG g _) (Nat.le_refl _))
    · exact Nat.le_refl _
  · exact Nat.le_refl _
theorem bare_ge {d : DS} {g : Str} : tl d ≤ tl (makeBare d g) := Nat.le_of_succ_le (tell_ge (d := d) (d' := d.setG g _) (Nat.le_refl _))
theorem letL_ge (s : Sta) : ∀ (p : List Str) (d : DS), tl d ≤ tl (letGoL s d p).1
  | [], d => Nat.le_refl _
  | g :: p, d => by
    have z := pass_ge (d := d) (g := g)
    unfold letGoL
    split
    · rename_i d1 e
      rw [e] at z
      exact Nat.le_trans z (Nat.le_trans bare_ge (letL_ge s p _))
    · rename_i d1 m e
      rw [e] at z
      split
      · exact z
      · split
        · exact Nat.le_trans z (Nat.le_trans on_ge (give_ge _ _ _))
        · exact Nat.le_trans z (Nat.le_trans (Nat.le_trans on_ge add_ge) (letL_ge s p _))
theorem leaveL_ge : ∀ (p : List Str) (d : DS) (m : Str), tl d ≤ tl (leaveL d m p).1
  | [], d, m => Nat.le_refl _
  | g :: p, d, m => by
    have t : tl d ≤ tl (d.tell (e2 "left" m)) := Nat.le_of_succ_le (tell_ge (Nat.le_refl _))
    have z := Nat.le_trans t (pass_ge (d := d.tell (e2 "left" m)) (g := g))
    unfold leaveL
    split
    · exact Nat.le_refl _
    · split
      · exact t
      · split
        · rename_i d1 e
          rw [e] at z
          exact Nat.le_trans z (Nat.le_trans bare_ge (leaveL_ge p _ _))
        · rename_i d1 f e
          rw [e] at z
          split
          · exact z
          · exact Nat.le_trans z on_ge
theorem stand_one {s : Sta} {d : DS} {h : Str} {r : HR} {l : Option Int} {g : Str} {p : List Str} (hr : getN d.hs h = some r) (hp : getN s.paths h = some (g :: p)) (ok : sOk s d h r l) : 1 ≤ tl (stand s d h l) := by
  obtain ⟨p', hp', _, gr, hg, _, _⟩ : ∃ p', getN s.paths h = some p' ∧ p' = g :: p ∧ standOk h r l (d.setH h ⟨r.row, r.last, .waits, l⟩) h (g :: p) := by
    obtain ⟨p', h1, _, h3⟩ := ok
    rw [hp] at h1
    cases h1
    exact ⟨_, hp, rfl, h3⟩
  unfold stand
  rw [hr, hp]
  show 1 ≤ tl (standL h r l (d.setH h ⟨r.row, r.last, .waits, l⟩) h (g :: p))
  unfold standL
  rw [hg]
  dsimp only
  split
  · rw [if_pos rfl]
    exact Nat.le_trans (Nat.le_add_left 1 _) (tell_ge (d := addPlace (d.setH h ⟨r.row, r.last, .waits, l⟩) h g) (Nat.le_refl _))
  · refine Nat.le_trans ?_ (standL_ge p _ g)
    exact Nat.le_trans (Nat.le_add_left 1 _) (tell_ge (d := d) (d' := (d.setH h ⟨r.row, r.last, .waits, l⟩).setG g _) (Nat.le_refl _))
theorem step_one {s : Sta} {x : SH} {h : Str} {r : HR} {g : Str} {p : List Str} (hr : getN x.hs h = some r) (hp : getN s.paths h = some (g :: p)) (hg : ∃ gr, getN x.gs g = some gr) (ok : howOk s (draftOf x) h r) : (stepP s x h).2 ≠ [] := by
  have hr' : getN (draftOf x).hs h = some r := hr
  have fin : ∀ {n : Int} {e : PyData}, 1 ≤ tl (NL.finish (draftOf x) h n e) := fun {n e} => by
    unfold NL.finish
    rw [hr']
    exact Nat.le_trans (Nat.le_add_left 1 _) (tell_ge (d := draftOf x) (d' := (draftOf x).setH h _) (Nat.le_refl _))
  have gto : ∀ {n : Int}, 1 ≤ tl (NL.goTo (draftOf x) h n) := fun {n} => by
    unfold NL.goTo
    rw [hr']
    exact Nat.le_trans (Nat.le_add_left 1 _) (tell_ge (d := draftOf x) (d' := (draftOf x).setH h _) (Nat.le_refl _))
  have act : ∀ row, actOk s (draftOf x) h r row → 1 ≤ tl (doAct s (draftOf x) h r row).1 := fun row ao => by
    cases row with
    | take l =>
      simp only [doAct]
      by_cases z : r.how = .within
      · rw [if_pos z]
        exact fin
      · rw [if_neg z]
        exact stand_one hr' hp (ao z)
    | tri =>
      simp only [doAct]
      by_cases z : r.how = .within
      · rw [if_pos z]
        exact fin
      · rw [if_neg z]
        by_cases w : wholeFree s (draftOf x) h = true
        · rw [if_pos w]
          exact stand_one hr' hp (ao.2 z w)
        · rw [if_neg w]
          exact fin
    | let_ =>
      simp only [doAct]
      by_cases z : r.how = .within
      · rw [if_pos z]
        show 1 ≤ tl (letGo s (draftOf x) h).1
        unfold letGo
        rw [hr', hp]
        exact Nat.le_trans (Nat.le_trans (Nat.le_add_left 1 _) (tell_ge (d := draftOf x) (d' := (draftOf x).setH h _) (Nat.le_refl _))) (letL_ge s _ _)
      · rw [if_neg z]
        exact fin
    | say n => exact fin
    | goto n => exact gto
    | iff a n => exact gto
  have row : rowOk s (draftOf x) h r → (doRow s (draftOf x) h r).2 = none → 1 ≤ tl (doRow s (draftOf x) h r).1 := fun ro hn => by
    obtain ⟨rows, hpr, h0, h1, _, ao⟩ := ro
    unfold doRow at hn ⊢
    rw [hpr] at hn ⊢
    dsimp only at hn ⊢
    split at hn
    · cases hn
    · rename_i ne
      rw [if_neg ne]
      cases hrow : rows[r.row.toNat]? with
      | none => rw [hrow] at hn; cases hn
      | some rw' => exact act _ (ao _ hrow)
  have all : (doHow s (draftOf x) h r).2 = none → 1 ≤ tl (doHow s (draftOf x) h r).1 := fun hn => by
    unfold doHow at hn ⊢
    unfold howOk at ok
    cases hh : r.how with
    | out => rw [hh] at hn ok; exact row ok hn
    | within => rw [hh] at hn ok; exact row ok hn
    | loose => exact Nat.le_trans (Nat.le_add_left 1 _) (tell_ge (d := draftOf x) (d' := (draftOf x).setH h _) (Nat.le_refl _))
    | waits =>
      rw [hh] at hn ok
      dsimp only at hn ⊢
      cases hl : r.looks with
      | none => rw [hl] at hn; cases hn
      | some l =>
        dsimp only
        split
        · show 1 ≤ tl (leave s (draftOf x) h).1
          unfold leave
          rw [hr', hp]
          show 1 ≤ tl (leaveL ((draftOf x).setH h ⟨r.row + 1, 0, .out, none⟩) h (g :: p)).1
          obtain ⟨gr, hgr⟩ := hg
          have t1 : 1 ≤ tl (((draftOf x).setH h ⟨r.row + 1, 0, .out, none⟩).tell (e2 "left" h)) := Nat.le_trans (Nat.le_add_left 1 _) (tell_ge (d := draftOf x) (d' := (draftOf x).setH h ⟨r.row + 1, 0, .out, none⟩) (Nat.le_refl _))
          have z := Nat.le_trans t1 (pass_ge (g := g))
          unfold leaveL
          rw [show getN ((draftOf x).setH h ⟨r.row + 1, 0, .out, none⟩).gs g = some gr from hgr]
          dsimp only
          split
          · exact t1
          · split
            · rename_i d1 e
              rw [e] at z
              exact Nat.le_trans z (Nat.le_trans bare_ge (leaveL_ge p _ _))
            · rename_i d1 f e
              rw [e] at z
              split
              · exact z
              · exact Nat.le_trans z on_ge
        · exact Nat.le_trans (Nat.le_add_left 1 _) (tell_ge (d := draftOf x) (d' := (draftOf x).setH h _) (Nat.le_refl _))
  intro z
  unfold stepP drafted at z
  rw [hr] at z
  dsimp only at z
  cases hd : doHow s (draftOf x) h r with
  | mk d o =>
    rw [hd] at z all
    cases o with
    | none =>
      have := all rfl
      have z : d.told = [] := z
      show False
      have : 1 ≤ d.told.length := this
      rw [z] at this
      exact absurd this (by decide)
    | some w => cases z
end NL
/-! the order in which those that stand come: letting go, again and again -/
namespace NL
open PySem L2 Evl
/-! who comes was standing -/
def PO (hs : List (Str × HR)) (gs : List (Str × GR)) (ex : Option Str) : Prop := ∀ g r, getN gs g = some r → (some g ≠ ex → ∀ m y, r.holder = some m → getN hs m = some y → y.how ≠ .out) ∧ ∀ p ∈ r.places, p.2 = true → ∀ y, getN hs p.1 = some y → y.how ≠ .out
section
variable {s : Sta} {d : DS} {hk gk : List Str} {w g m h : Str} {x : SH} {r : HR} {N : Nat} {hs : List (Str × HR)} {gs : List (Str × GR)} {gr v : GR} {ex : Option Str}
theorem PO.set (o : PO hs gs ex) (hg : getN gs g = some gr) (h1 : some g ≠ ex → ∀ m y, v.holder = some m → getN hs m = some y → y.how ≠ .out) (h2 : ∀ p ∈ v.places, p.2 = true → ∀ y, getN hs p.1 = some y → y.how ≠ .out) : PO hs (setN gs g v) ex := fun n y hn => by
  by_cases e : n = g
  · subst e
    rw [getN_same hg] at hn
    cases hn
    exact ⟨h1, h2⟩
  · rw [getN_other e] at hn
    exact o n y hn
theorem PO.fresh (o : PO hs gs (some g)) (hg : getN gs g = some gr) (h1 : ∀ m y, v.holder = some m → getN hs m = some y → y.how ≠ .out) (h2 : ∀ p ∈ v.places, p.2 = true → ∀ y, getN hs p.1 = some y → y.how ≠ .out) : PO hs (setN gs g v) none := fun n y hn => by
  by_cases e : n = g
  · subst e
    rw [getN_same hg] at hn
    cases hn
    exact ⟨fun _ => h1, h2⟩
  · rw [getN_other e] at hn
    obtain ⟨a, b⟩ := o n y hn
    exact ⟨fun _ => a (fun z => e (Option.some.inj z)), b⟩
/-! how many stand or are within -/
/-! where nobody is loose, it can -/
def NoL (hs : List (Str × HR)) : Prop := ∀ n r, getN hs n = some r → r.how ≠ .loose
theorem NoL.lo (n : NoL d.hs) (m : Str) : d.loose m = false := by
  unfold DS.loose
  cases z : getN d.hs m with
  | none => rfl
  | some r =>
    show decide (r.how = .loose) = false
    exact decide_eq_false (n m r z)
theorem NoL.set (n : NoL hs) {r' : HR} (h' : r'.how ≠ .loose) : NoL (setN hs m r') := fun k r hr => by
  rw [getN_set] at hr
  split at hr
  · cases z : getN hs m with
    | none => rw [z] at hr; cases hr
    | some y => rw [z] at hr; cases hr; exact h'
  · exact n k r hr
/-! what was told, and who was first, ahead of it changes nothing -/
variable {t : List PyData} {fs : List Str}
end
end NL
namespace K41
open PySem L2 Evl NL
def top (i : Nat) : Stmt := PySem.Challenge.pw_nearlocks_k41_houses_that_are_stuck.main.body.getD i (.Pass ⟨0, 0, 0, 0⟩)
abbrev s_within_of : Stmt := top 7
abbrev s_is_loose : Stmt := top 8
abbrev s_give_lock : Stmt := top 9
abbrev s_add_place : Stmt := top 10
abbrev s_stand : Stmt := top 11
abbrev s_let_go : Stmt := top 13
abbrev s_is_below : Stmt := top 14
abbrev s_pass_left : Stmt := top 15
abbrev s_hand_on : Stmt := top 16
abbrev s_hand_near : Stmt := top 17
abbrev s_hand_over : Stmt := top 18
abbrev s_make_bare : Stmt := top 19
abbrev s_leave : Stmt := top 20
abbrev s_leave_row : Stmt := top 21
abbrev s_places_without : Stmt := top 22
abbrev s_is_whole : Stmt := top 24
abbrev s_is_whole_from : Stmt := top 25
abbrev s_is_tuple_of : Stmt := top 26
abbrev s_is_known : Stmt := top 27
abbrev s_is_within : Stmt := top 29
abbrev s_finish : Stmt := top 30
abbrev s_go : Stmt := top 31
abbrev s_do_take : Stmt := top 32
abbrev s_do_try : Stmt := top 33
abbrev s_do_let : Stmt := top 34
abbrev s_do_say : Stmt := top 35
abbrev s_do_goto : Stmt := top 36
abbrev s_do_if : Stmt := top 37
abbrev s_do_row : Stmt := top 39
abbrev s_do_tie : Stmt := top 40
abbrev s_do_look : Stmt := top 41
abbrev s_drafted : Stmt := top 43
abbrev s_why : Stmt := top 45
abbrev s_stuck : Stmt := top 46
abbrev s_is_letters : Stmt := top 49
abbrev s_is_name : Stmt := top 53
abbrev s_is_plan : Stmt := top 54
abbrev s_member_fits : Stmt := top 55
abbrev s_has_group_form : Stmt := top 56
abbrev s_hands_of : Stmt := top 57
abbrev s_groups_of : Stmt := top 58
abbrev s_bounds_of : Stmt := top 59
abbrev s_all_in : Stmt := top 60
abbrev s_all_from : Stmt := top 61
abbrev s_is_row_number : Stmt := top 64
abbrev s_word_fits : Stmt := top 65
abbrev s_take_fits : Stmt := top 66
abbrev s_say_fits : Stmt := top 67
abbrev s_goto_fits : Stmt := top 68
abbrev s_if_fits : Stmt := top 69
abbrev s_is_program : Stmt := top 71
abbrev s_row_fits : Stmt := top 72
abbrev s_is_book : Stmt := top 73
abbrev s_pair_fits : Stmt := top 74
abbrev s__law_box : Stmt := top 84
abbrev s__law_take : Stmt := top 85
abbrev s__law_pick : Stmt := top 86
abbrev s__law_plan : Stmt := top 87
abbrev s__law_in : Stmt := top 88
abbrev s__law_alike : Stmt := top 89
abbrev s__law_short : Stmt := top 90
abbrev s__law_movers : Stmt := top 91
abbrev s__law_right : Stmt := top 92
abbrev s_law : Stmt := top 93
abbrev s_House___init__ : Stmt := inClass (top 82) 0
abbrev s_House_hand : Stmt := inClass (top 82) 1
abbrev s_House_within : Stmt := inClass (top 82) 3
abbrev s_House_twin : Stmt := inClass (top 82) 4
abbrev s_House_step : Stmt := inClass (top 82) 5
abbrev s_House___eq__ : Stmt := inClass (top 82) 6
abbrev s_Draft___init__ : Stmt := inClass (top 6) 0
abbrev N_within_of : List Str := ["hands", "name", "row", "last", "how", "looks"]
theorem sc_within_of : FnScope N_within_of ["hands"] (defScope s_within_of) := ⟨rfl, rfl, rfl, by decide +kernel, rfl, by decide +kernel, by decide +kernel⟩
abbrev N_is_loose : List Str := ["draft", "member", "row", "last", "how", "looks"]
theorem sc_is_loose : FnScope N_is_loose ["draft", "member"] (defScope s_is_loose) := ⟨rfl, rfl, rfl, by decide +kernel, rfl, by decide +kernel, by decide +kernel⟩
abbrev N_give_lock : List Str := ["draft", "member", "row", "last", "how", "looks", "holder", "count", "places"]
theorem sc_give_lock : FnScope N_give_lock ["draft", "member"] (defScope s_give_lock) := ⟨rfl, rfl, rfl, by decide +kernel, rfl, by decide +kernel, by decide +kernel⟩
abbrev N_add_place : List Str := ["draft", "member", "group", "holder", "count", "places"]
theorem sc_add_place : FnScope N_add_place ["draft", "member", "group"] (defScope s_add_place) := ⟨rfl, rfl, rfl, by decide +kernel, rfl, by decide +kernel, by decide +kernel⟩
abbrev N_stand : List Str := ["draft", "hand", "looks", "row", "last", "how", "former", "path", "member", "group", "holder", "count", "places"]
theorem sc_stand : FnScope N_stand ["draft", "hand", "looks"] (defScope s_stand) := ⟨rfl, rfl, rfl, by decide +kernel, rfl, by decide +kernel, by decide +kernel⟩
abbrev N_let_go : List Str := ["draft", "hand", "row", "last", "how", "looks", "path", "arounds", "group", "around", "first"]
theorem sc_let_go : FnScope N_let_go ["draft", "hand"] (defScope s_let_go) := ⟨rfl, rfl, rfl, by decide +kernel, rfl, by decide +kernel, by decide +kernel⟩
abbrev N_is_below : List Str := ["draft", "group", "holder", "count", "places"]
theorem sc_is_below : FnScope N_is_below ["draft", "group"] (defScope s_is_below) := ⟨rfl, rfl, rfl, by decide +kernel, rfl, by decide +kernel, by decide +kernel⟩
abbrev N_pass_left : List Str := ["draft", "group", "holder", "count", "places", "first", "member", "standing"]
theorem sc_pass_left : FnScope N_pass_left ["draft", "group"] (defScope s_pass_left) := ⟨rfl, rfl, rfl, by decide +kernel, rfl, by decide +kernel, by decide +kernel⟩
abbrev N_hand_on : List Str := ["draft", "group", "reason", "count", "holder", "counted", "places", "member", "standing"]
theorem sc_hand_on : FnScope N_hand_on ["draft", "group", "reason", "count"] (defScope s_hand_on) := ⟨rfl, rfl, rfl, by decide +kernel, rfl, by decide +kernel, by decide +kernel⟩
abbrev N_hand_near : List Str := ["draft", "group", "around", "holder", "count", "places", "member"]
theorem sc_hand_near : FnScope N_hand_near ["draft", "group", "around"] (defScope s_hand_near) := ⟨rfl, rfl, rfl, by decide +kernel, rfl, by decide +kernel, by decide +kernel⟩
abbrev N_hand_over : List Str := ["draft", "group", "around"]
theorem sc_hand_over : FnScope N_hand_over ["draft", "group", "around"] (defScope s_hand_over) := ⟨rfl, rfl, rfl, by decide +kernel, rfl, by decide +kernel, by decide +kernel⟩
abbrev N_make_bare : List Str := ["draft", "group"]
theorem sc_make_bare : FnScope N_make_bare ["draft", "group"] (defScope s_make_bare) := ⟨rfl, rfl, rfl, by decide +kernel, rfl, by decide +kernel, by decide +kernel⟩
abbrev N_leave : List Str := ["draft", "hand", "row", "last", "how", "looks"]
theorem sc_leave : FnScope N_leave ["draft", "hand"] (defScope s_leave) := ⟨rfl, rfl, rfl, by decide +kernel, rfl, by decide +kernel, by decide +kernel⟩
abbrev N_leave_row : List Str := ["draft", "member", "group", "holder", "count", "places", "first"]
theorem sc_leave_row : FnScope N_leave_row ["draft", "member"] (defScope s_leave_row) := ⟨rfl, rfl, rfl, by decide +kernel, rfl, by decide +kernel, by decide +kernel⟩
abbrev N_places_without : List Str := ["places", "gone", "member", "standing"]
theorem sc_places_without : FnScope N_places_without ["places", "gone"] (defScope s_places_without) := ⟨rfl, rfl, rfl, by decide +kernel, rfl, by decide +kernel, by decide +kernel⟩
abbrev N_is_whole : List Str := ["thing"]
theorem sc_is_whole : FnScope N_is_whole ["thing"] (defScope s_is_whole) := ⟨rfl, rfl, rfl, by decide +kernel, rfl, by decide +kernel, by decide +kernel⟩
abbrev N_is_whole_from : List Str := ["thing", "least"]
theorem sc_is_whole_from : FnScope N_is_whole_from ["thing", "least"] (defScope s_is_whole_from) := ⟨rfl, rfl, rfl, by decide +kernel, rfl, by decide +kernel, by decide +kernel⟩
abbrev N_is_tuple_of : List Str := ["thing", "many"]
theorem sc_is_tuple_of : FnScope N_is_tuple_of ["thing", "many"] (defScope s_is_tuple_of) := ⟨rfl, rfl, rfl, by decide +kernel, rfl, by decide +kernel, by decide +kernel⟩
abbrev N_is_known : List Str := ["thing", "names"]
theorem sc_is_known : FnScope N_is_known ["thing", "names"] (defScope s_is_known) := ⟨rfl, rfl, rfl, by decide +kernel, rfl, by decide +kernel, by decide +kernel⟩
abbrev N_is_within : List Str := ["draft", "hand", "row", "last", "how", "looks"]
theorem sc_is_within : FnScope N_is_within ["draft", "hand"] (defScope s_is_within) := ⟨rfl, rfl, rfl, by decide +kernel, rfl, by decide +kernel, by decide +kernel⟩
abbrev N_finish : List Str := ["draft", "hand", "last", "event", "row", "former", "how", "looks"]
theorem sc_finish : FnScope N_finish ["draft", "hand", "last", "event"] (defScope s_finish) := ⟨rfl, rfl, rfl, by decide +kernel, rfl, by decide +kernel, by decide +kernel⟩
abbrev N_go : List Str := ["draft", "hand", "number", "row", "last", "how", "looks"]
theorem sc_go : FnScope N_go ["draft", "hand", "number"] (defScope s_go) := ⟨rfl, rfl, rfl, by decide +kernel, rfl, by decide +kernel, by decide +kernel⟩
abbrev N_do_take : List Str := ["draft", "hand", "row"]
theorem sc_do_take : FnScope N_do_take ["draft", "hand", "row"] (defScope s_do_take) := ⟨rfl, rfl, rfl, by decide +kernel, rfl, by decide +kernel, by decide +kernel⟩
abbrev N_do_try : List Str := ["draft", "hand", "row", "whole", "holder", "count", "places"]
theorem sc_do_try : FnScope N_do_try ["draft", "hand", "row"] (defScope s_do_try) := ⟨rfl, rfl, rfl, by decide +kernel, rfl, by decide +kernel, by decide +kernel⟩
abbrev N_do_let : List Str := ["draft", "hand", "row"]
theorem sc_do_let : FnScope N_do_let ["draft", "hand", "row"] (defScope s_do_let) := ⟨rfl, rfl, rfl, by decide +kernel, rfl, by decide +kernel, by decide +kernel⟩
abbrev N_do_say : List Str := ["draft", "hand", "row"]
theorem sc_do_say : FnScope N_do_say ["draft", "hand", "row"] (defScope s_do_say) := ⟨rfl, rfl, rfl, by decide +kernel, rfl, by decide +kernel, by decide +kernel⟩
abbrev N_do_goto : List Str := ["draft", "hand", "row"]
theorem sc_do_goto : FnScope N_do_goto ["draft", "hand", "row"] (defScope s_do_goto) := ⟨rfl, rfl, rfl, by decide +kernel, rfl, by decide +kernel, by decide +kernel⟩
abbrev N_do_if : List Str := ["draft", "hand", "row", "number", "last", "how", "looks"]
theorem sc_do_if : FnScope N_do_if ["draft", "hand", "row"] (defScope s_do_if) := ⟨rfl, rfl, rfl, by decide +kernel, rfl, by decide +kernel, by decide +kernel⟩
abbrev N_do_row : List Str := ["draft", "hand", "number", "last", "how", "looks", "program", "row", "action"]
theorem sc_do_row : FnScope N_do_row ["draft", "hand"] (defScope s_do_row) := ⟨rfl, rfl, rfl, by decide +kernel, rfl, by decide +kernel, by decide +kernel⟩
abbrev N_do_tie : List Str := ["draft", "hand", "row", "last", "how", "looks"]
theorem sc_do_tie : FnScope N_do_tie ["draft", "hand"] (defScope s_do_tie) := ⟨rfl, rfl, rfl, by decide +kernel, rfl, by decide +kernel, by decide +kernel⟩
abbrev N_do_look : List Str := ["draft", "hand", "row", "last", "how", "looks"]
theorem sc_do_look : FnScope N_do_look ["draft", "hand"] (defScope s_do_look) := ⟨rfl, rfl, rfl, by decide +kernel, rfl, by decide +kernel, by decide +kernel⟩
abbrev N_drafted : List Str := ["house", "name", "draft", "row", "last", "how", "looks", "action", "reason", "idle"]
theorem sc_drafted : FnScope N_drafted ["house", "name"] (defScope s_drafted) := ⟨rfl, rfl, rfl, by decide +kernel, rfl, by decide +kernel, by decide +kernel⟩
abbrev N_why : List Str := ["house", "name", "event"]
theorem sc_why : FnScope N_why ["house", "name"] (defScope s_why) := ⟨rfl, rfl, rfl, by decide +kernel, rfl, by decide +kernel, by decide +kernel⟩
abbrev N_stuck : List Str := ["house", "rows", "name", "reason"]
theorem sc_stuck : FnScope N_stuck ["house"] (defScope s_stuck) := ⟨rfl, rfl, rfl, by decide +kernel, rfl, by decide +kernel, by decide +kernel⟩
abbrev N_is_letters : List Str := ["word", "sign"]
theorem sc_is_letters : FnScope N_is_letters ["word"] (defScope s_is_letters) := ⟨rfl, rfl, rfl, by decide +kernel, rfl, by decide +kernel, by decide +kernel⟩
abbrev N_is_name : List Str := ["thing"]
theorem sc_is_name : FnScope N_is_name ["thing"] (defScope s_is_name) := ⟨rfl, rfl, rfl, by decide +kernel, rfl, by decide +kernel, by decide +kernel⟩
abbrev N_is_plan : List Str := ["thing", "seen", "waiting", "member"]
theorem sc_is_plan : FnScope N_is_plan ["thing"] (defScope s_is_plan) := ⟨rfl, rfl, rfl, by decide +kernel, rfl, by decide +kernel, by decide +kernel⟩
abbrev N_member_fits : List Str := ["thing", "seen", "name"]
theorem sc_member_fits : FnScope N_member_fits ["thing", "seen"] (defScope s_member_fits) := ⟨rfl, rfl, rfl, by decide +kernel, rfl, by decide +kernel, by decide +kernel⟩
abbrev N_has_group_form : List Str := ["thing", "name", "bound", "members"]
theorem sc_has_group_form : FnScope N_has_group_form ["thing"] (defScope s_has_group_form) := ⟨rfl, rfl, rfl, by decide +kernel, rfl, by decide +kernel, by decide +kernel⟩
abbrev N_hands_of : List Str := ["plan", "name", "bound", "path"]
theorem sc_hands_of : FnScope N_hands_of ["plan"] (defScope s_hands_of) := ⟨rfl, rfl, rfl, by decide +kernel, rfl, by decide +kernel, by decide +kernel⟩
abbrev N_groups_of : List Str := ["plan", "name", "bound", "path"]
theorem sc_groups_of : FnScope N_groups_of ["plan"] (defScope s_groups_of) := ⟨rfl, rfl, rfl, by decide +kernel, rfl, by decide +kernel, by decide +kernel⟩
abbrev N_bounds_of : List Str := ["plan", "name", "bound", "path"]
theorem sc_bounds_of : FnScope N_bounds_of ["plan"] (defScope s_bounds_of) := ⟨rfl, rfl, rfl, by decide +kernel, rfl, by decide +kernel, by decide +kernel⟩
abbrev N_all_in : List Str := ["plan"]
theorem sc_all_in : FnScope N_all_in ["plan"] (defScope s_all_in) := ⟨rfl, rfl, rfl, by decide +kernel, rfl, by decide +kernel, by decide +kernel⟩
abbrev N_all_from : List Str := ["group", "around", "name", "bound", "members", "rows", "inside", "member"]
theorem sc_all_from : FnScope N_all_from ["group", "around"] (defScope s_all_from) := ⟨rfl, rfl, rfl, by decide +kernel, rfl, by decide +kernel, by decide +kernel⟩
abbrev N_is_row_number : List Str := ["thing", "many"]
theorem sc_is_row_number : FnScope N_is_row_number ["thing", "many"] (defScope s_is_row_number) := ⟨rfl, rfl, rfl, by decide +kernel, rfl, by decide +kernel, by decide +kernel⟩
abbrev N_word_fits : List Str := ["row", "many"]
theorem sc_word_fits : FnScope N_word_fits ["row", "many"] (defScope s_word_fits) := ⟨rfl, rfl, rfl, by decide +kernel, rfl, by decide +kernel, by decide +kernel⟩
abbrev N_take_fits : List Str := ["row", "many"]
theorem sc_take_fits : FnScope N_take_fits ["row", "many"] (defScope s_take_fits) := ⟨rfl, rfl, rfl, by decide +kernel, rfl, by decide +kernel, by decide +kernel⟩
abbrev N_say_fits : List Str := ["row", "many"]
theorem sc_say_fits : FnScope N_say_fits ["row", "many"] (defScope s_say_fits) := ⟨rfl, rfl, rfl, by decide +kernel, rfl, by decide +kernel, by decide +kernel⟩
abbrev N_goto_fits : List Str := ["row", "many"]
theorem sc_goto_fits : FnScope N_goto_fits ["row", "many"] (defScope s_goto_fits) := ⟨rfl, rfl, rfl, by decide +kernel, rfl, by decide +kernel, by decide +kernel⟩
abbrev N_if_fits : List Str := ["row", "many"]
theorem sc_if_fits : FnScope N_if_fits ["row", "many"] (defScope s_if_fits) := ⟨rfl, rfl, rfl, by decide +kernel, rfl, by decide +kernel, by decide +kernel⟩
abbrev N_is_program : List Str := ["thing", "row"]
theorem sc_is_program : FnScope N_is_program ["thing"] (defScope s_is_program) := ⟨rfl, rfl, rfl, by decide +kernel, rfl, by decide +kernel, by decide +kernel⟩
abbrev N_row_fits : List Str := ["row", "many", "word", "fits"]
theorem sc_row_fits : FnScope N_row_fits ["row", "many"] (defScope s_row_fits) := ⟨rfl, rfl, rfl, by decide +kernel, rfl, by decide +kernel, by decide +kernel⟩
abbrev N_is_book : List Str := ["plan", "thing", "name", "program", "pair"]
theorem sc_is_book : FnScope N_is_book ["plan", "thing"] (defScope s_is_book) := ⟨rfl, rfl, rfl, by decide +kernel, rfl, by decide +kernel, by decide +kernel⟩
abbrev N_pair_fits : List Str := ["pair"]
theorem sc_pair_fits : FnScope N_pair_fits ["pair"] (defScope s_pair_fits) := ⟨rfl, rfl, rfl, by decide +kernel, rfl, by decide +kernel, by decide +kernel⟩
abbrev N__law_box : List Str := ["_law_script", "_law_k", "_law_cell"]
theorem sc__law_box : FnScope N__law_box ["_law_script", "_law_k"] (defScope s__law_box) := ⟨rfl, rfl, rfl, by decide +kernel, rfl, by decide +kernel, by decide +kernel⟩
abbrev N__law_take : List Str := ["_law_box_here", "_law_many", "_law_primes", "_law_prime", "_law_drawn", "_law_digit"]
theorem sc__law_take : FnScope N__law_take ["_law_box_here", "_law_many"] (defScope s__law_take) := ⟨rfl, rfl, rfl, by decide +kernel, rfl, by decide +kernel, by decide +kernel⟩
abbrev N__law_pick : List Str := ["_law_box_here", "_law_some"]
theorem sc__law_pick : FnScope N__law_pick ["_law_box_here", "_law_some"] (defScope s__law_pick) := ⟨rfl, rfl, rfl, by decide +kernel, rfl, by decide +kernel, by decide +kernel⟩
abbrev N__law_plan : List Str := ["_law_box_here", "_law_names", "_law_ones", "_law_bounds", "_law_way", "_law_inner", "_law_outer", "_law_at"]
theorem sc__law_plan : FnScope N__law_plan ["_law_box_here"] (defScope s__law_plan) := ⟨rfl, rfl, rfl, by decide +kernel, rfl, by decide +kernel, by decide +kernel⟩
abbrev N__law_in : List Str := ["_law_plan_here", "_law_found", "_law_member"]
theorem sc__law_in : FnScope N__law_in ["_law_plan_here"] (defScope s__law_in) := ⟨rfl, rfl, rfl, by decide +kernel, rfl, by decide +kernel, by decide +kernel⟩
abbrev N__law_alike : List Str := ["_law_found", "_law_due", "_law_one", "_law_other"]
theorem sc__law_alike : FnScope N__law_alike ["_law_found", "_law_due"] (defScope s__law_alike) := ⟨rfl, rfl, rfl, by decide +kernel, rfl, by decide +kernel, by decide +kernel⟩
abbrev N__law_short : List Str := ["_law_box_here", "_law_looks", "_law_some"]
theorem sc__law_short : FnScope N__law_short ["_law_box_here"] (defScope s__law_short) := ⟨rfl, rfl, rfl, by decide +kernel, rfl, by decide +kernel, by decide +kernel⟩
abbrev N__law_movers : List Str := ["_law_house", "_law_hands", "_law_movers_here", "_law_found", "_law_name", "_law_event"]
theorem sc__law_movers : FnScope N__law_movers ["_law_house", "_law_hands"] (defScope s__law_movers) := ⟨rfl, rfl, rfl, by decide +kernel, rfl, by decide +kernel, by decide +kernel⟩
abbrev N__law_right : List Str := ["_law_house", "_law_hands", "_law_movers_here", "_law_wanted", "_law_twin", "_law_told", "_law_name", "_law_reason", "_law_waiting"]
theorem sc__law_right : FnScope N__law_right ["_law_house", "_law_hands"] (defScope s__law_right) := ⟨rfl, rfl, rfl, by decide +kernel, rfl, by decide +kernel, by decide +kernel⟩
abbrev N_law : List Str := ["_law_script", "_law_k", "_law_box_here", "_law_plan_here", "_law_hands", "_law_house", "_law_turn", "_law_movers_here", "_law_others", "_law_name"]
theorem sc_law : FnScope N_law ["_law_script"] (defScope s_law) := ⟨rfl, rfl, rfl, by decide +kernel, rfl, by decide +kernel, by decide +kernel⟩
abbrev N_House___init__ : List Str := ["self", "plan", "book", "name", "bound", "path"]
theorem sc_House___init__ : FnScope N_House___init__ ["self", "plan", "book"] (defScope s_House___init__) := ⟨rfl, rfl, rfl, by decide +kernel, rfl, by decide +kernel, by decide +kernel⟩
abbrev N_House_hand : List Str := ["self", "name"]
theorem sc_House_hand : FnScope N_House_hand ["self", "name"] (defScope s_House_hand) := ⟨rfl, rfl, rfl, by decide +kernel, rfl, by decide +kernel, by decide +kernel⟩
abbrev N_House_within : List Str := ["self"]
theorem sc_House_within : FnScope N_House_within ["self"] (defScope s_House_within) := ⟨rfl, rfl, rfl, by decide +kernel, rfl, by decide +kernel, by decide +kernel⟩
abbrev N_House_twin : List Str := ["self", "other"]
theorem sc_House_twin : FnScope N_House_twin ["self"] (defScope s_House_twin) := ⟨rfl, rfl, rfl, by decide +kernel, rfl, by decide +kernel, by decide +kernel⟩
abbrev N_House_step : List Str := ["self", "name", "draft"]
theorem sc_House_step : FnScope N_House_step ["self", "name"] (defScope s_House_step) := ⟨rfl, rfl, rfl, by decide +kernel, rfl, by decide +kernel, by decide +kernel⟩
abbrev N_House___eq__ : List Str := ["self", "other"]
theorem sc_House___eq__ : FnScope N_House___eq__ ["self", "other"] (defScope s_House___eq__) := ⟨rfl, rfl, rfl, by decide +kernel, rfl, by decide +kernel, by decide +kernel⟩
abbrev N_Draft___init__ : List Str := ["self", "house"]
theorem sc_Draft___init__ : FnScope N_Draft___init__ ["self", "house"] (defScope s_Draft___init__) := ⟨rfl, rfl, rfl, by decide +kernel, rfl, by decide +kernel, by decide +kernel⟩
/-! ### the facts of the top -/
set_option genInjectivity false in
set_option genSizeOfSpec false in
structure Tp (w : World) (K : PySem.W.Frag) (mg : Str → Option Value) where
  C_Draft : Addr
  cl_Draft : Cls K C_Draft
  mc_Draft : mg "Draft" = some (.ref C_Draft)
  na_Draft_paths : NoAttr K C_Draft "paths"
  na_Draft_bounds : NoAttr K C_Draft "bounds"
  na_Draft_programs : NoAttr K C_Draft "programs"
  na_Draft_hands : NoAttr K C_Draft "hands"
  na_Draft_groups : NoAttr K C_Draft "groups"
  na_Draft_told : NoAttr K C_Draft "told"
  na_Draft_firsts : NoAttr K C_Draft "firsts"
  C_House : Addr
  cl_House : Cls K C_House
  mc_House : mg "House" = some (.ref C_House)
  na_House_plan : NoAttr K C_House "plan"
  na_House_book : NoAttr K C_House "book"
  na_House_paths : NoAttr K C_House "paths"
  na_House_bounds : NoAttr K C_House "bounds"
  na_House_programs : NoAttr K C_House "programs"
  na_House_hands : NoAttr K C_House "hands"
  na_House_groups : NoAttr K C_House "groups"
  f_within_of : Addr
  d_within_of : FuncData
  F_within_of : Fun K "within_of" "within_of" s_within_of f_within_of d_within_of
  m_within_of : mg "within_of" = some (.ref f_within_of)
  f_is_loose : Addr
  d_is_loose : FuncData
  F_is_loose : Fun K "is_loose" "is_loose" s_is_loose f_is_loose d_is_loose
  m_is_loose : mg "is_loose" = some (.ref f_is_loose)
  f_give_lock : Addr
  d_give_lock : FuncData
  F_give_lock : Fun K "give_lock" "give_lock" s_give_lock f_give_lock d_give_lock
  m_give_lock : mg "give_lock" = some (.ref f_give_lock)
  f_add_place : Addr
  d_add_place : FuncData
  F_add_place : Fun K "add_place" "add_place" s_add_place f_add_place d_add_place
  m_add_place : mg "add_place" = some (.ref f_add_place)
  f_stand : Addr
  d_stand : FuncData
  F_stand : Fun K "stand" "stand" s_stand f_stand d_stand
  m_stand : mg "stand" = some (.ref f_stand)
  f_let_go : Addr
  d_let_go : FuncData
  F_let_go : Fun K "let_go" "let_go" s_let_go f_let_go d_let_go
  m_let_go : mg "let_go" = some (.ref f_let_go)
  f_is_below : Addr
  d_is_below : FuncData
  F_is_below : Fun K "is_below" "is_below" s_is_below f_is_below d_is_below
  m_is_below : mg "is_below" = some (.ref f_is_below)
  f_pass_left : Addr
  d_pass_left : FuncData
  F_pass_left : Fun K "pass_left" "pass_left" s_pass_left f_pass_left d_pass_left
  m_pass_left : mg "pass_left" = some (.ref f_pass_left)
  f_hand_on : Addr
  d_hand_on : FuncData
  F_hand_on : Fun K "hand_on" "hand_on" s_hand_on f_hand_on d_hand_on
  m_hand_on : mg "hand_on" = some (.ref f_hand_on)
  f_hand_near : Addr
  d_hand_near : FuncData
  F_hand_near : Fun K "hand_near" "hand_near" s_hand_near f_hand_near d_hand_near
  m_hand_near : mg "hand_near" = some (.ref f_hand_near)
  f_hand_over : Addr
  d_hand_over : FuncData
  F_hand_over : Fun K "hand_over" "hand_over" s_hand_over f_hand_over d_hand_over
  m_hand_over : mg "hand_over" = some (.ref f_hand_over)
  f_make_bare : Addr
  d_make_bare : FuncData
  F_make_bare : Fun K "make_bare" "make_bare" s_make_bare f_make_bare d_make_bare
  m_make_bare : mg "make_bare" = some (.ref f_make_bare)
  f_leave : Addr
  d_leave : FuncData
  F_leave : Fun K "leave" "leave" s_leave f_leave d_leave
  m_leave : mg "leave" = some (.ref f_leave)
  f_leave_row : Addr
  d_leave_row : FuncData
  F_leave_row : Fun K "leave_row" "leave_row" s_leave_row f_leave_row d_leave_row
  m_leave_row : mg "leave_row" = some (.ref f_leave_row)
  f_places_without : Addr
  d_places_without : FuncData
  F_places_without : Fun K "places_without" "places_without" s_places_without f_places_without d_places_without
  m_places_without : mg "places_without" = some (.ref f_places_without)
  f_is_whole : Addr
  d_is_whole : FuncData
  F_is_whole : Fun K "is_whole" "is_whole" s_is_whole f_is_whole d_is_whole
  m_is_whole : mg "is_whole" = some (.ref f_is_whole)
  f_is_whole_from : Addr
  d_is_whole_from : FuncData
  F_is_whole_from : Fun K "is_whole_from" "is_whole_from" s_is_whole_from f_is_whole_from d_is_whole_from
  m_is_whole_from : mg "is_whole_from" = some (.ref f_is_whole_from)
  f_is_tuple_of : Addr
  d_is_tuple_of : FuncData
  F_is_tuple_of : Fun K "is_tuple_of" "is_tuple_of" s_is_tuple_of f_is_tuple_of d_is_tuple_of
  m_is_tuple_of : mg "is_tuple_of" = some (.ref f_is_tuple_of)
  f_is_known : Addr
  d_is_known : FuncData
  F_is_known : Fun K "is_known" "is_known" s_is_known f_is_known d_is_known
  m_is_known : mg "is_known" = some (.ref f_is_known)
  f_is_within : Addr
  d_is_within : FuncData
  F_is_within : Fun K "is_within" "is_within" s_is_within f_is_within d_is_within
  m_is_within : mg "is_within" = some (.ref f_is_within)
  f_finish : Addr
  d_finish : FuncData
  F_finish : Fun K "finish" "finish" s_finish f_finish d_finish
  m_finish : mg "finish" = some (.ref f_finish)
  f_go : Addr
  d_go : FuncData
  F_go : Fun K "go" "go" s_go f_go d_go
  m_go : mg "go" = some (.ref f_go)
  f_do_take : Addr
  d_do_take : FuncData
  F_do_take : Fun K "do_take" "do_take" s_do_take f_do_take d_do_take
  m_do_take : mg "do_take" = some (.ref f_do_take)
  f_do_try : Addr
  d_do_try : FuncData
  F_do_try : Fun K "do_try" "do_try" s_do_try f_do_try d_do_try
  m_do_try : mg "do_try" = some (.ref f_do_try)
  f_do_let : Addr
  d_do_let : FuncData
  F_do_let : Fun K "do_let" "do_let" s_do_let f_do_let d_do_let
  m_do_let : mg "do_let" = some (.ref f_do_let)
  f_do_say : Addr
  d_do_say : FuncData
  F_do_say : Fun K "do_say" "do_say" s_do_say f_do_say d_do_say
  m_do_say : mg "do_say" = some (.ref f_do_say)
  f_do_goto : Addr
  d_do_goto : FuncData
  F_do_goto : Fun K "do_goto" "do_goto" s_do_goto f_do_goto d_do_goto
  m_do_goto : mg "do_goto" = some (.ref f_do_goto)
  f_do_if : Addr
  d_do_if : FuncData
  F_do_if : Fun K "do_if" "do_if" s_do_if f_do_if d_do_if
  m_do_if : mg "do_if" = some (.ref f_do_if)
  f_do_row : Addr
  d_do_row : FuncData
  F_do_row : Fun K "do_row" "do_row" s_do_row f_do_row d_do_row
  m_do_row : mg "do_row" = some (.ref f_do_row)
  f_do_tie : Addr
  d_do_tie : FuncData
  F_do_tie : Fun K "do_tie" "do_tie" s_do_tie f_do_tie d_do_tie
  m_do_tie : mg "do_tie" = some (.ref f_do_tie)
  f_do_look : Addr
  d_do_look : FuncData
  F_do_look : Fun K "do_look" "do_look" s_do_look f_do_look d_do_look
  m_do_look : mg "do_look" = some (.ref f_do_look)
  f_drafted : Addr
  d_drafted : FuncData
  F_drafted : Fun K "drafted" "drafted" s_drafted f_drafted d_drafted
  m_drafted : mg "drafted" = some (.ref f_drafted)
  f_why : Addr
  d_why : FuncData
  F_why : Fun K "why" "why" s_why f_why d_why
  m_why : mg "why" = some (.ref f_why)
  f_stuck : Addr
  d_stuck : FuncData
  F_stuck : Fun K "stuck" "stuck" s_stuck f_stuck d_stuck
  m_stuck : mg "stuck" = some (.ref f_stuck)
  f_is_letters : Addr
  d_is_letters : FuncData
  F_is_letters : Fun K "is_letters" "is_letters" s_is_letters f_is_letters d_is_letters
  m_is_letters : mg "is_letters" = some (.ref f_is_letters)
  f_is_name : Addr
  d_is_name : FuncData
  F_is_name : Fun K "is_name" "is_name" s_is_name f_is_name d_is_name
  m_is_name : mg "is_name" = some (.ref f_is_name)
  f_is_plan : Addr
  d_is_plan : FuncData
  F_is_plan : Fun K "is_plan" "is_plan" s_is_plan f_is_plan d_is_plan
  m_is_plan : mg "is_plan" = some (.ref f_is_plan)
  f_member_fits : Addr
  d_member_fits : FuncData
  F_member_fits : Fun K "member_fits" "member_fits" s_member_fits f_member_fits d_member_fits
  m_member_fits : mg "member_fits" = some (.ref f_member_fits)
  f_has_group_form : Addr
  d_has_group_form : FuncData
  F_has_group_form : Fun K "has_group_form" "has_group_form" s_has_group_form f_has_group_form d_has_group_form
  m_has_group_form : mg "has_group_form" = some (.ref f_has_group_form)
  f_hands_of : Addr
  d_hands_of : FuncData
  F_hands_of : Fun K "hands_of" "hands_of" s_hands_of f_hands_of d_hands_of
  m_hands_of : mg "hands_of" = some (.ref f_hands_of)
  f_groups_of : Addr
  d_groups_of : FuncData
  F_groups_of : Fun K "groups_of" "groups_of" s_groups_of f_groups_of d_groups_of
  m_groups_of : mg "groups_of" = some (.ref f_groups_of)
  f_bounds_of : Addr
  d_bounds_of : FuncData
  F_bounds_of : Fun K "bounds_of" "bounds_of" s_bounds_of f_bounds_of d_bounds_of
  m_bounds_of : mg "bounds_of" = some (.ref f_bounds_of)
  f_all_in : Addr
  d_all_in : FuncData
  F_all_in : Fun K "all_in" "all_in" s_all_in f_all_in d_all_in
  m_all_in : mg "all_in" = some (.ref f_all_in)
  f_all_from : Addr
  d_all_from : FuncData
  F_all_from : Fun K "all_from" "all_from" s_all_from f_all_from d_all_from
  m_all_from : mg "all_from" = some (.ref f_all_from)
  f_is_row_number : Addr
  d_is_row_number : FuncData
  F_is_row_number : Fun K "is_row_number" "is_row_number" s_is_row_number f_is_row_number d_is_row_number
  m_is_row_number : mg "is_row_number" = some (.ref f_is_row_number)
  f_word_fits : Addr
  d_word_fits : FuncData
  F_word_fits : Fun K "word_fits" "word_fits" s_word_fits f_word_fits d_word_fits
  m_word_fits : mg "word_fits" = some (.ref f_word_fits)
  f_take_fits : Addr
  d_take_fits : FuncData
  F_take_fits : Fun K "take_fits" "take_fits" s_take_fits f_take_fits d_take_fits
  m_take_fits : mg "take_fits" = some (.ref f_take_fits)
  f_say_fits : Addr
  d_say_fits : FuncData
  F_say_fits : Fun K "say_fits" "say_fits" s_say_fits f_say_fits d_say_fits
  m_say_fits : mg "say_fits" = some (.ref f_say_fits)
  f_goto_fits : Addr
  d_goto_fits : FuncData
  F_goto_fits : Fun K "goto_fits" "goto_fits" s_goto_fits f_goto_fits d_goto_fits
  m_goto_fits : mg "goto_fits" = some (.ref f_goto_fits)
  f_if_fits : Addr
  d_if_fits : FuncData
  F_if_fits : Fun K "if_fits" "if_fits" s_if_fits f_if_fits d_if_fits
  m_if_fits : mg "if_fits" = some (.ref f_if_fits)
  f_is_program : Addr
  d_is_program : FuncData
  F_is_program : Fun K "is_program" "is_program" s_is_program f_is_program d_is_program
  m_is_program : mg "is_program" = some (.ref f_is_program)
  f_row_fits : Addr
  d_row_fits : FuncData
  F_row_fits : Fun K "row_fits" "row_fits" s_row_fits f_row_fits d_row_fits
  m_row_fits : mg "row_fits" = some (.ref f_row_fits)
  f_is_book : Addr
  d_is_book : FuncData
  F_is_book : Fun K "is_book" "is_book" s_is_book f_is_book d_is_book
  m_is_book : mg "is_book" = some (.ref f_is_book)
  f_pair_fits : Addr
  d_pair_fits : FuncData
  F_pair_fits : Fun K "pair_fits" "pair_fits" s_pair_fits f_pair_fits d_pair_fits
  m_pair_fits : mg "pair_fits" = some (.ref f_pair_fits)
  f__law_box : Addr
  d__law_box : FuncData
  F__law_box : Fun K "_law_box" "_law_box" s__law_box f__law_box d__law_box
  m__law_box : mg "_law_box" = some (.ref f__law_box)
  f__law_take : Addr
  d__law_take : FuncData
  F__law_take : Fun K "_law_take" "_law_take" s__law_take f__law_take d__law_take
  m__law_take : mg "_law_take" = some (.ref f__law_take)
  f__law_pick : Addr
  d__law_pick : FuncData
  F__law_pick : Fun K "_law_pick" "_law_pick" s__law_pick f__law_pick d__law_pick
  m__law_pick : mg "_law_pick" = some (.ref f__law_pick)
  f__law_plan : Addr
  d__law_plan : FuncData
  F__law_plan : Fun K "_law_plan" "_law_plan" s__law_plan f__law_plan d__law_plan
  m__law_plan : mg "_law_plan" = some (.ref f__law_plan)
  f__law_in : Addr
  d__law_in : FuncData
  F__law_in : Fun K "_law_in" "_law_in" s__law_in f__law_in d__law_in
  m__law_in : mg "_law_in" = some (.ref f__law_in)
  f__law_alike : Addr
  d__law_alike : FuncData
  F__law_alike : Fun K "_law_alike" "_law_alike" s__law_alike f__law_alike d__law_alike
  m__law_alike : mg "_law_alike" = some (.ref f__law_alike)
  f__law_short : Addr
  d__law_short : FuncData
  F__law_short : Fun K "_law_short" "_law_short" s__law_short f__law_short d__law_short
  m__law_short : mg "_law_short" = some (.ref f__law_short)
  f__law_movers : Addr
  d__law_movers : FuncData
  F__law_movers : Fun K "_law_movers" "_law_movers" s__law_movers f__law_movers d__law_movers
  m__law_movers : mg "_law_movers" = some (.ref f__law_movers)
  f__law_right : Addr
  d__law_right : FuncData
  F__law_right : Fun K "_law_right" "_law_right" s__law_right f__law_right d__law_right
  m__law_right : mg "_law_right" = some (.ref f__law_right)
  f_law : Addr
  d_law : FuncData
  F_law : Fun K "law" "law" s_law f_law d_law
  m_law : mg "law" = some (.ref f_law)
  f_House___init__ : Addr
  d_House___init__ : FuncData
  F_House___init__ : Fun K "__init__" "House.__init__" s_House___init__ f_House___init__ d_House___init__
  mt_House___init__ : Meth K C_House "__init__" f_House___init__
  mk_House : Mk K C_House f_House___init__
  f_House_hand : Addr
  d_House_hand : FuncData
  F_House_hand : Fun K "hand" "House.hand" s_House_hand f_House_hand d_House_hand
  mt_House_hand : Meth K C_House "hand" f_House_hand
  f_House_within : Addr
  d_House_within : FuncData
  F_House_within : Fun K "within" "House.within" s_House_within f_House_within d_House_within
  mt_House_within : Meth K C_House "within" f_House_within
  f_House_twin : Addr
  d_House_twin : FuncData
  F_House_twin : Fun K "twin" "House.twin" s_House_twin f_House_twin d_House_twin
  mt_House_twin : Meth K C_House "twin" f_House_twin
  f_House_step : Addr
  d_House_step : FuncData
  F_House_step : Fun K "step" "House.step" s_House_step f_House_step d_House_step
  mt_House_step : Meth K C_House "step" f_House_step
  f_House___eq__ : Addr
  d_House___eq__ : FuncData
  F_House___eq__ : Fun K "__eq__" "House.__eq__" s_House___eq__ f_House___eq__ d_House___eq__
  mt_House___eq__ : Meth K C_House "__eq__" f_House___eq__
  f_Draft___init__ : Addr
  d_Draft___init__ : FuncData
  F_Draft___init__ : Fun K "__init__" "Draft.__init__" s_Draft___init__ f_Draft___init__ d_Draft___init__
  mt_Draft___init__ : Meth K C_Draft "__init__" f_Draft___init__
  mk_Draft : Mk K C_Draft f_Draft___init__
  z_abs : mg "abs" = none
  z_all : mg "all" = none
  z_any : mg "any" = none
  z_bool : mg "bool" = none
  z_dict : mg "dict" = none
  z_int : mg "int" = none
  z_isinstance : mg "isinstance" = none
  z_len : mg "len" = none
  z_min : mg "min" = none
  z_range : mg "range" = none
  z_sorted : mg "sorted" = none
  z_str : mg "str" = none
  z_tuple : mg "tuple" = none
  z_zip : mg "zip" = none
  t_MOST_SAID : Tok
  c_MOST_SAID : mg "MOST_SAID" = some (.int 99 t_MOST_SAID)
  a_FORMS : Addr
  c_FORMS : mg "FORMS" = some (.ref a_FORMS)
  D_FORMS : KTab K w a_FORMS (fun z => if z = "take" then some (.ref f_take_fits) else if z = "try" then some (.ref f_word_fits) else if z = "let" then some (.ref f_word_fits) else if z = "say" then some (.ref f_say_fits) else if z = "goto" then some (.ref f_goto_fits) else if z = "if" then some (.ref f_if_fits) else none)
  nd : [f_take_fits, f_word_fits, f_say_fits, f_goto_fits, f_if_fits].Nodup
  t_LETTERS : Tok
  c_LETTERS : mg "LETTERS" = some (.str "abcdefghijklmnopqrstuvwxyz" t_LETTERS)
  t_LONGEST : Tok
  c_LONGEST : mg "LONGEST_NAME" = some (.int 8 t_LONGEST)
  t_LEAST : Tok
  c_LEAST : mg "LEAST_BOUND" = some (.int 1 t_LEAST)
  a_ROWS : Addr
  c_ROWS : mg "ROWS" = some (.ref a_ROWS)
  D_ROWS : KTab K w a_ROWS (fun z => if z = "take" then some (.ref f_do_take) else if z = "try" then some (.ref f_do_try) else if z = "let" then some (.ref f_do_let) else if z = "say" then some (.ref f_do_say) else if z = "goto" then some (.ref f_do_goto) else if z = "if" then some (.ref f_do_if) else none)
  nd2 : [f_do_take, f_do_try, f_do_let, f_do_say, f_do_goto, f_do_if].Nodup
  a_HOWS : Addr
  c_HOWS : mg "HOWS" = some (.ref a_HOWS)
  D_HOWS : KTab K w a_HOWS (fun z => if z = "out" then some (.ref f_do_row) else if z = "loose" then some (.ref f_do_tie) else if z = "waits" then some (.ref f_do_look) else if z = "within" then some (.ref f_do_row) else none)
  nd3 : [f_do_row, f_do_tie, f_do_look].Nodup
  ic_House : PySem.W.findIn K (.ref C_House) "__class__" = some (some (.builtin "object.__class__"))
  ic_mro : PySem.W.mroIn K C_House (.type "object") = some true
  in_House : PySem.W.findIn K (.ref C_House) "__ne__" = some (some (.builtin "object.__ne__"))
  ic_get : PySem.W.specialIn K (.builtin "object.__class__") "__get__" = some (some (.builtin "getset_descriptor.__get__"))
  ic_tk : PySem.W.takesIn K (.builtin "object.__class__") = some true
theorem b_within_of {w : World} {K : PySem.W.Frag} {mg : Str → Option Value} (T : Tp w K mg) : Binds K T.d_within_of ["hands"] [] := T.F_within_of.binds fun _ _ _ _ _ _ us hl => match us, hl with | [_], _ => rfl
theorem b_is_loose {w : World} {K : PySem.W.Frag} {mg : Str → Option Value} (T : Tp w K mg) : Binds K T.d_is_loose ["draft", "member"] [] := T.F_is_loose.binds fun _ _ _ _ _ _ us hl => match us, hl with | [_, _], _ => rfl
theorem b_give_lock {w : World} {K : PySem.W.Frag} {mg : Str → Option Value} (T : Tp w K mg) : Binds K T.d_give_lock ["draft", "member"] [] := T.F_give_lock.binds fun _ _ _ _ _ _ us hl => match us, hl with | [_, _], _ => rfl
theorem b_add_place {w : World} {K : PySem.W.Frag} {mg : Str → Option Value} (T : Tp w K mg) : Binds K T.d_add_place ["draft", "member", "group"] [] := T.F_add_place.binds fun _ _ _ _ _ _ us hl => match us, hl with | [_, _, _], _ => rfl
theorem b_stand {w : World} {K : PySem.W.Frag} {mg : Str → Option Value} (T : Tp w K mg) : Binds K T.d_stand ["draft", "hand", "looks"] [] := T.F_stand.binds fun _ _ _ _ _ _ us hl => match us, hl with | [_, _, _], _ => rfl
theorem b_let_go {w : World} {K : PySem.W.Frag} {mg : Str → Option Value} (T : Tp w K mg) : Binds K T.d_let_go ["draft", "hand"] [] := T.F_let_go.binds fun _ _ _ _ _ _ us hl => match us, hl with | [_, _], _ => rfl
theorem b_is_below {w : World} {K : PySem.W.Frag} {mg : Str → Option Value} (T : Tp w K mg) : Binds K T.d_is_below ["draft", "group"] [] := T.F_is_below.binds fun _ _ _ _ _ _ us hl => match us, hl with | [_, _], _ => rfl
theorem b_pass_left {w : World} {K : PySem.W.Frag} {mg : Str → Option Value} (T : Tp w K mg) : Binds K T.d_pass_left ["draft", "group"] [] := T.F_pass_left.binds fun _ _ _ _ _ _ us hl => match us, hl with | [_, _], _ => rfl
theorem b_hand_on {w : World} {K : PySem.W.Frag} {mg : Str → Option Value} (T : Tp w K mg) : Binds K T.d_hand_on ["draft", "group", "reason", "count"] [] := T.F_hand_on.binds fun _ _ _ _ _ _ us hl => match us, hl with | [_, _, _, _], _ => rfl
theorem b_hand_near {w : World} {K : PySem.W.Frag} {mg : Str → Option Value} (T : Tp w K mg) : Binds K T.d_hand_near ["draft", "group", "around"] [] := T.F_hand_near.binds fun _ _ _ _ _ _ us hl => match us, hl with | [_, _, _], _ => rfl
theorem b_hand_over {w : World} {K : PySem.W.Frag} {mg : Str → Option Value} (T : Tp w K mg) : Binds K T.d_hand_over ["draft", "group", "around"] [] := T.F_hand_over.binds fun _ _ _ _ _ _ us hl => match us, hl with | [_, _, _], _ => rfl
theorem b_make_bare {w : World} {K : PySem.W.Frag} {mg : Str → Option Value} (T : Tp w K mg) : Binds K T.d_make_bare ["draft", "group"] [] := T.F_make_bare.binds fun _ _ _ _ _ _ us hl => match us, hl with | [_, _], _ => rfl
theorem b_leave {w : World} {K : PySem.W.Frag} {mg : Str → Option Value} (T : Tp w K mg) : Binds K T.d_leave ["draft", "hand"] [] := T.F_leave.binds fun _ _ _ _ _ _ us hl => match us, hl with | [_, _], _ => rfl
theorem b_leave_row {w : World} {K : PySem.W.Frag} {mg : Str → Option Value} (T : Tp w K mg) : Binds K T.d_leave_row ["draft", "member"] [] := T.F_leave_row.binds fun _ _ _ _ _ _ us hl => match us, hl with | [_, _], _ => rfl
theorem b_places_without {w : World} {K : PySem.W.Frag} {mg : Str → Option Value} (T : Tp w K mg) : Binds K T.d_places_without ["places", "gone"] [] := T.F_places_without.binds fun _ _ _ _ _ _ us hl => match us, hl with | [_, _], _ => rfl
theorem b_is_whole {w : World} {K : PySem.W.Frag} {mg : Str → Option Value} (T : Tp w K mg) : Binds K T.d_is_whole ["thing"] [] := T.F_is_whole.binds fun _ _ _ _ _ _ us hl => match us, hl with | [_], _ => rfl
theorem b_is_whole_from {w : World} {K : PySem.W.Frag} {mg : Str → Option Value} (T : Tp w K mg) : Binds K T.d_is_whole_from ["thing", "least"] [] := T.F_is_whole_from.binds fun _ _ _ _ _ _ us hl => match us, hl with | [_, _], _ => rfl
theorem b_is_tuple_of {w : World} {K : PySem.W.Frag} {mg : Str → Option Value} (T : Tp w K mg) : Binds K T.d_is_tuple_of ["thing", "many"] [] := T.F_is_tuple_of.binds fun _ _ _ _ _ _ us hl => match us, hl with | [_, _], _ => rfl
theorem b_is_known {w : World} {K : PySem.W.Frag} {mg : Str → Option Value} (T : Tp w K mg) : Binds K T.d_is_known ["thing", "names"] [] := T.F_is_known.binds fun _ _ _ _ _ _ us hl => match us, hl with | [_, _], _ => rfl
theorem b_is_within {w : World} {K : PySem.W.Frag} {mg : Str → Option Value} (T : Tp w K mg) : Binds K T.d_is_within ["draft", "hand"] [] := T.F_is_within.binds fun _ _ _ _ _ _ us hl => match us, hl with | [_, _], _ => rfl
theorem b_finish {w : World} {K : PySem.W.Frag} {mg : Str → Option Value} (T : Tp w K mg) : Binds K T.d_finish ["draft", "hand", "last", "event"] [] := T.F_finish.binds fun _ _ _ _ _ _ us hl => match us, hl with | [_, _, _, _], _ => rfl
theorem b_go {w : World} {K : PySem.W.Frag} {mg : Str → Option Value} (T : Tp w K mg) : Binds K T.d_go ["draft", "hand", "number"] [] := T.F_go.binds fun _ _ _ _ _ _ us hl => match us, hl with | [_, _, _], _ => rfl
theorem b_do_take {w : World} {K : PySem.W.Frag} {mg : Str → Option Value} (T : Tp w K mg) : Binds K T.d_do_take ["draft", "hand", "row"] [] := T.F_do_take.binds fun _ _ _ _ _ _ us hl => match us, hl with | [_, _, _], _ => rfl
theorem b_do_try {w : World} {K : PySem.W.Frag} {mg : Str → Option Value} (T : Tp w K mg) : Binds K T.d_do_try ["draft", "hand", "row"] [] := T.F_do_try.binds fun _ _ _ _ _ _ us hl => match us, hl with | [_, _, _], _ => rfl
theorem b_do_let {w : World} {K : PySem.W.Frag} {mg : Str → Option Value} (T : Tp w K mg) : Binds K T.d_do_let ["draft", "hand", "row"] [] := T.F_do_let.binds fun _ _ _ _ _ _ us hl => match us, hl with | [_, _, _], _ => rfl
theorem b_do_say {w : World} {K : PySem.W.Frag} {mg : Str → Option Value} (T : Tp w K mg) : Binds K T.d_do_say ["draft", "hand", "row"] [] := T.F_do_say.binds fun _ _ _ _ _ _ us hl => match us, hl with | [_, _, _], _ => rfl
theorem b_do_goto {w : World} {K : PySem.W.Frag} {mg : Str → Option Value} (T : Tp w K mg) : Binds K T.d_do_goto ["draft", "hand", "row"] [] := T.F_do_goto.binds fun _ _ _ _ _ _ us hl => match us, hl with | [_, _, _], _ => rfl
theorem b_do_if {w : World} {K : PySem.W.Frag} {mg : Str → Option Value} (T : Tp w K mg) : Binds K T.d_do_if ["draft", "hand", "row"] [] := T.F_do_if.binds fun _ _ _ _ _ _ us hl => match us, hl with | [_, _, _], _ => rfl
theorem b_do_row {w : World} {K : PySem.W.Frag} {mg : Str → Option Value} (T : Tp w K mg) : Binds K T.d_do_row ["draft", "hand"] [] := T.F_do_row.binds fun _ _ _ _ _ _ us hl => match us, hl with | [_, _], _ => rfl
theorem b_do_tie {w : World} {K : PySem.W.Frag} {mg : Str → Option Value} (T : Tp w K mg) : Binds K T.d_do_tie ["draft", "hand"] [] := T.F_do_tie.binds fun _ _ _ _ _ _ us hl => match us, hl with | [_, _], _ => rfl
theorem b_do_look {w : World} {K : PySem.W.Frag} {mg : Str → Option Value} (T : Tp w K mg) : Binds K T.d_do_look ["draft", "hand"] [] := T.F_do_look.binds fun _ _ _ _ _ _ us hl => match us, hl with | [_, _], _ => rfl
theorem b_drafted {w : World} {K : PySem.W.Frag} {mg : Str → Option Value} (T : Tp w K mg) : Binds K T.d_drafted ["house", "name"] [] := T.F_drafted.binds fun _ _ _ _ _ _ us hl => match us, hl with | [_, _], _ => rfl
theorem b_why {w : World} {K : PySem.W.Frag} {mg : Str → Option Value} (T : Tp w K mg) : Binds K T.d_why ["house", "name"] [] := T.F_why.binds fun _ _ _ _ _ _ us hl => match us, hl with | [_, _], _ => rfl
theorem b_stuck {w : World} {K : PySem.W.Frag} {mg : Str → Option Value} (T : Tp w K mg) : Binds K T.d_stuck ["house"] [] := T.F_stuck.binds fun _ _ _ _ _ _ us hl => match us, hl with | [_], _ => rfl
theorem b_is_letters {w : World} {K : PySem.W.Frag} {mg : Str → Option Value} (T : Tp w K mg) : Binds K T.d_is_letters ["word"] [] := T.F_is_letters.binds fun _ _ _ _ _ _ us hl => match us, hl with | [_], _ => rfl
theorem b_is_name {w : World} {K : PySem.W.Frag} {mg : Str → Option Value} (T : Tp w K mg) : Binds K T.d_is_name ["thing"] [] := T.F_is_name.binds fun _ _ _ _ _ _ us hl => match us, hl with | [_], _ => rfl
theorem b_is_plan {w : World} {K : PySem.W.Frag} {mg : Str → Option Value} (T : Tp w K mg) : Binds K T.d_is_plan ["thing"] [] := T.F_is_plan.binds fun _ _ _ _ _ _ us hl => match us, hl with | [_], _ => rfl
theorem b_member_fits {w : World} {K : PySem.W.Frag} {mg : Str → Option Value} (T : Tp w K mg) : Binds K T.d_member_fits ["thing", "seen"] [] := T.F_member_fits.binds fun _ _ _ _ _ _ us hl => match us, hl with | [_, _], _ => rfl
theorem b_has_group_form {w : World} {K : PySem.W.Frag} {mg : Str → Option Value} (T : Tp w K mg) : Binds K T.d_has_group_form ["thing"] [] := T.F_has_group_form.binds fun _ _ _ _ _ _ us hl => match us, hl with | [_], _ => rfl
theorem b_hands_of {w : World} {K : PySem.W.Frag} {mg : Str → Option Value} (T : Tp w K mg) : Binds K T.d_hands_of ["plan"] [] := T.F_hands_of.binds fun _ _ _ _ _ _ us hl => match us, hl with | [_], _ => rfl
theorem b_groups_of {w : World} {K : PySem.W.Frag} {mg : Str → Option Value} (T : Tp w K mg) : Binds K T.d_groups_of ["plan"] [] := T.F_groups_of.binds fun _ _ _ _ _ _ us hl => match us, hl with | [_], _ => rfl
theorem b_bounds_of {w : World} {K : PySem.W.Frag} {mg : Str → Option Value} (T : Tp w K mg) : Binds K T.d_bounds_of ["plan"] [] := T.F_bounds_of.binds fun _ _ _ _ _ _ us hl => match us, hl with | [_], _ => rfl
theorem b_all_in {w : World} {K : PySem.W.Frag} {mg : Str → Option Value} (T : Tp w K mg) : Binds K T.d_all_in ["plan"] [] := T.F_all_in.binds fun _ _ _ _ _ _ us hl => match us, hl with | [_], _ => rfl
theorem b_all_from {w : World} {K : PySem.W.Frag} {mg : Str → Option Value} (T : Tp w K mg) : Binds K T.d_all_from ["group", "around"] [] := T.F_all_from.binds fun _ _ _ _ _ _ us hl => match us, hl with | [_, _], _ => rfl
theorem b_is_row_number {w : World} {K : PySem.W.Frag} {mg : Str → Option Value} (T : Tp w K mg) : Binds K T.d_is_row_number ["thing", "many"] [] := T.F_is_row_number.binds fun _ _ _ _ _ _ us hl => match us, hl with | [_, _], _ => rfl
theorem b_word_fits {w : World} {K : PySem.W.Frag} {mg : Str → Option Value} (T : Tp w K mg) : Binds K T.d_word_fits ["row", "many"] [] := T.F_word_fits.binds fun _ _ _ _ _ _ us hl => match us, hl with | [_, _], _ => rfl
theorem b_take_fits {w : World} {K : PySem.W.Frag} {mg : Str → Option Value} (T : Tp w K mg) : Binds K T.d_take_fits ["row", "many"] [] := T.F_take_fits.binds fun _ _ _ _ _ _ us hl => match us, hl with | [_, _], _ => rfl
theorem b_say_fits {w : World} {K : PySem.W.Frag} {mg : Str → Option Value} (T : Tp w K mg) : Binds K T.d_say_fits ["row", "many"] [] := T.F_say_fits.binds fun _ _ _ _ _ _ us hl => match us, hl with | [_, _], _ => rfl
theorem b_goto_fits {w : World} {K : PySem.W.Frag} {mg : Str → Option Value} (T : Tp w K mg) : Binds K T.d_goto_fits ["row", "many"] [] := T.F_goto_fits.binds fun _ _ _ _ _ _ us hl => match us, hl with | [_, _], _ => rfl
theorem b_if_fits {w : World} {K : PySem.W.Frag} {mg : Str → Option Value} (T : Tp w K mg) : Binds K T.d_if_fits ["row", "many"] [] := T.F_if_fits.binds fun _ _ _ _ _ _ us hl => match us, hl with | [_, _], _ => rfl
theorem b_is_program {w : World} {K : PySem.W.Frag} {mg : Str → Option Value} (T : Tp w K mg) : Binds K T.d_is_program ["thing"] [] := T.F_is_program.binds fun _ _ _ _ _ _ us hl => match us, hl with | [_], _ => rfl
theorem b_row_fits {w : World} {K : PySem.W.Frag} {mg : Str → Option Value} (T : Tp w K mg) : Binds K T.d_row_fits ["row", "many"] [] := T.F_row_fits.binds fun _ _ _ _ _ _ us hl => match us, hl with | [_, _], _ => rfl
theorem b_is_book {w : World} {K : PySem.W.Frag} {mg : Str → Option Value} (T : Tp w K mg) : Binds K T.d_is_book ["plan", "thing"] [] := T.F_is_book.binds fun _ _ _ _ _ _ us hl => match us, hl with | [_, _], _ => rfl
theorem b_pair_fits {w : World} {K : PySem.W.Frag} {mg : Str → Option Value} (T : Tp w K mg) : Binds K T.d_pair_fits ["pair"] [] := T.F_pair_fits.binds fun _ _ _ _ _ _ us hl => match us, hl with | [_], _ => rfl
theorem b__law_box {w : World} {K : PySem.W.Frag} {mg : Str → Option Value} (T : Tp w K mg) : Binds K T.d__law_box ["_law_script", "_law_k"] [] := T.F__law_box.binds fun _ _ _ _ _ _ us hl => match us, hl with | [_, _], _ => rfl
theorem b__law_take {w : World} {K : PySem.W.Frag} {mg : Str → Option Value} (T : Tp w K mg) : Binds K T.d__law_take ["_law_box_here", "_law_many"] [] := T.F__law_take.binds fun _ _ _ _ _ _ us hl => match us, hl with | [_, _], _ => rfl
theorem b__law_pick {w : World} {K : PySem.W.Frag} {mg : Str → Option Value} (T : Tp w K mg) : Binds K T.d__law_pick ["_law_box_here", "_law_some"] [] := T.F__law_pick.binds fun _ _ _ _ _ _ us hl => match us, hl with | [_, _], _ => rfl
theorem b__law_plan {w : World} {K : PySem.W.Frag} {mg : Str → Option Value} (T : Tp w K mg) : Binds K T.d__law_plan ["_law_box_here"] [] := T.F__law_plan.binds fun _ _ _ _ _ _ us hl => match us, hl with | [_], _ => rfl
theorem b__law_in {w : World} {K : PySem.W.Frag} {mg : Str → Option Value} (T : Tp w K mg) : Binds K T.d__law_in ["_law_plan_here"] [] := T.F__law_in.binds fun _ _ _ _ _ _ us hl => match us, hl with | [_], _ => rfl
theorem b__law_alike {w : World} {K : PySem.W.Frag} {mg : Str → Option Value} (T : Tp w K mg) : Binds K T.d__law_alike ["_law_found", "_law_due"] [] := T.F__law_alike.binds fun _ _ _ _ _ _ us hl => match us, hl with | [_, _], _ => rfl
theorem b__law_short {w : World} {K : PySem.W.Frag} {mg : Str → Option Value} (T : Tp w K mg) : Binds K T.d__law_short ["_law_box_here"] [] := T.F__law_short.binds fun _ _ _ _ _ _ us hl => match us, hl with | [_], _ => rfl
theorem b__law_movers {w : World} {K : PySem.W.Frag} {mg : Str → Option Value} (T : Tp w K mg) : Binds K T.d__law_movers ["_law_house", "_law_hands"] [] := T.F__law_movers.binds fun _ _ _ _ _ _ us hl => match us, hl with | [_, _], _ => rfl
theorem b__law_right {w : World} {K : PySem.W.Frag} {mg : Str → Option Value} (T : Tp w K mg) : Binds K T.d__law_right ["_law_house", "_law_hands"] [] := T.F__law_right.binds fun _ _ _ _ _ _ us hl => match us, hl with | [_, _], _ => rfl
theorem b_House___init__ {w : World} {K : PySem.W.Frag} {mg : Str → Option Value} (T : Tp w K mg) : Binds K T.d_House___init__ ["self", "plan", "book"] [] := T.F_House___init__.binds fun _ _ _ _ _ _ us hl => match us, hl with | [_, _, _], _ => rfl
theorem b_House_hand {w : World} {K : PySem.W.Frag} {mg : Str → Option Value} (T : Tp w K mg) : Binds K T.d_House_hand ["self", "name"] [] := T.F_House_hand.binds fun _ _ _ _ _ _ us hl => match us, hl with | [_, _], _ => rfl
theorem b_House_within {w : World} {K : PySem.W.Frag} {mg : Str → Option Value} (T : Tp w K mg) : Binds K T.d_House_within ["self"] [] := T.F_House_within.binds fun _ _ _ _ _ _ us hl => match us, hl with | [_], _ => rfl
theorem b_House_twin {w : World} {K : PySem.W.Frag} {mg : Str → Option Value} (T : Tp w K mg) : Binds K T.d_House_twin ["self"] [] := T.F_House_twin.binds fun _ _ _ _ _ _ us hl => match us, hl with | [_], _ => rfl
theorem b_House_step {w : World} {K : PySem.W.Frag} {mg : Str → Option Value} (T : Tp w K mg) : Binds K T.d_House_step ["self", "name"] [] := T.F_House_step.binds fun _ _ _ _ _ _ us hl => match us, hl with | [_, _], _ => rfl
theorem b_House___eq__ {w : World} {K : PySem.W.Frag} {mg : Str → Option Value} (T : Tp w K mg) : Binds K T.d_House___eq__ ["self", "other"] [] := T.F_House___eq__.binds fun _ _ _ _ _ _ us hl => match us, hl with | [_, _], _ => rfl
theorem b_Draft___init__ {w : World} {K : PySem.W.Frag} {mg : Str → Option Value} (T : Tp w K mg) : Binds K T.d_Draft___init__ ["self", "house"] [] := T.F_Draft___init__.binds fun _ _ _ _ _ _ us hl => match us, hl with | [_, _], _ => rfl
theorem Tp.dc {w : World} {K : PySem.W.Frag} {mg : Str → Option Value} (T : Tp w K mg) : DCl K T.C_Draft := ⟨T.cl_Draft, T.na_Draft_paths, T.na_Draft_bounds, T.na_Draft_programs, T.na_Draft_hands, T.na_Draft_groups, T.na_Draft_told, T.na_Draft_firsts⟩
/-! ### what the program's own defs tell -/
def isWhole : PyData → Bool
  | .int _ => true | _ => false
def wholeFrom (d : PyData) (k : Int) : Bool := match d with
  | .int i => decide (k ≤ i)
  | _ => false
def rowNum (d : PyData) (many : Int) : Bool := match d with
  | .int i => decide (0 ≤ i) && decide (i < many)
  | _ => false
def wordFits (ds : List PyData) : Bool := decide (ds.length = 1)
def takeFits (ds : List PyData) : Bool := match ds with
  | [_, .none] => true
  | [_, d] => wholeFrom d 0
  | _ => false
def sayFits (ds : List PyData) : Bool := match ds with
  | [_, .int i] => decide (0 ≤ i) && decide (i ≤ 99)
  | _ => false
def gotoFits (ds : List PyData) (many : Int) : Bool := match ds with
  | [_, d] => rowNum d many
  | _ => false
def ifFits (ds : List PyData) (many : Int) : Bool := match ds with
  | [_, d, e] => isWhole d && rowNum e many
  | _ => false
def rowFits (d : PyData) (many : Int) : Bool := match d with
  | .tuple (.str z :: ds) => if z = "take" then takeFits (.str z :: ds) else if z = "try" then wordFits (.str z :: ds) else if z = "let" then wordFits (.str z :: ds) else if z = "say" then sayFits (.str z :: ds) else if z = "goto" then gotoFits (.str z :: ds) many else if z = "if" then ifFits (.str z :: ds) many else false
  | _ => false
def progFits : PyData → Bool
  | .tuple ds => ds.all fun d => rowFits d ds.length
  | _ => false
theorem and_of {a b : Bool} (h : b = true → a = true) : (a && b) = b := by
  cases b with
  | false => exact Bool.and_false a
  | true => rw [h rfl] <;> rfl
theorem len_is {n m : Nat} (h : decide (V.int (n : Int) = V.int (m : Int)) = true) : n = m := by
  have e : V.int (n : Int) = V.int (m : Int) := of_decide_eq_true h
  have e2 : (n : Int) = (m : Int) := V.int.inj e
  omega
theorem is_len {n m : Nat} (h : n = m) : decide (V.int (n : Int) = V.int (m : Int)) = true := by
  subst h
  exact decide_eq_true rfl
theorem dxb2 {K : PySem.W.Frag} {H : Hp} {xs : List V} {ds : List PyData} (h : DxAll K H xs ds) (e : xs.length = 2) : ∃ x y d f, xs = [x, y] ∧ ds = [d, f] ∧ Dx K H x d ∧ Dx K H y f := by
  cases h with
  | nil => simp at e
  | cons h1 t =>
    cases t with
    | nil => simp at e
    | cons h2 t =>
      cases t with
      | nil => exact ⟨_, _, _, _, rfl, rfl, h1, h2⟩
      | cons _ _ => simp at e
theorem dxb3 {K : PySem.W.Frag} {H : Hp} {xs : List V} {ds : List PyData} (h : DxAll K H xs ds) (e : xs.length = 3) : ∃ x y z d f g, xs = [x, y, z] ∧ ds = [d, f, g] ∧ Dx K H x d ∧ Dx K H y f ∧ Dx K H z g := by
  cases h with
  | nil => simp at e
  | cons h1 t =>
    obtain ⟨y, z, f, g, rfl, rfl, hy, hz⟩ := dxb2 t (by simpa using e)
    exact ⟨_, _, _, _, _, _, rfl, rfl, h1, hy, hz⟩
theorem takeFits_len {ds : List PyData} (h : takeFits ds = true) : ds.length = 2 := by
  unfold takeFits at h
  split at h
  · rfl
  · rfl
  · cases h
theorem sayFits_len {ds : List PyData} (h : sayFits ds = true) : ds.length = 2 := by
  unfold sayFits at h
  split at h
  · rfl
  · cases h
theorem gotoFits_len {ds : List PyData} {k : Int} (h : gotoFits ds k = true) : ds.length = 2 := by
  unfold gotoFits at h
  split at h
  · rfl
  · cases h
theorem ifFits_len {ds : List PyData} {k : Int} (h : ifFits ds k = true) : ds.length = 3 := by
  unfold ifFits at h
  split at h
  · rfl
  · cases h
/-! ### promises -/
def spWhole (K : PySem.W.Frag) : Sp := fun vs H Q _ => ∃ v d, vs = [v] ∧ Dx K H v d ∧ ∀ H', Ex H H' → Q (.bl (isWhole d)) H'
def spFrom (K : PySem.W.Frag) : Sp := fun vs H Q _ => ∃ v d k, vs = [v, .int k] ∧ Dx K H v d ∧ ∀ H', Ex H H' → Q (.bl (wholeFrom d k)) H'
def spNum (K : PySem.W.Frag) : Sp := fun vs H Q _ => ∃ v d k, vs = [v, .int k] ∧ Dx K H v d ∧ ∀ H', Ex H H' → Q (.bl (rowNum d k)) H'
def spFit (K : PySem.W.Frag) (f : List PyData → Int → Bool) : Sp := fun vs H Q _ => ∃ a xs ds k, vs = [.ref a, .int k] ∧ SqT K H a xs ∧ DxAll K H xs ds ∧ xs.length ≤ 40000 ∧ ∀ H', Ex H H' → Q (.bl (f ds k)) H'
def spRowFits (K : PySem.W.Frag) : Sp := fun vs H Q _ => ∃ v d k, vs = [v, .int k] ∧ Dx K H v d ∧ (∀ ds, d = .tuple ds → ds.length ≤ 40000) ∧ ∀ H', Ex H H' → Q (.bl (rowFits d k)) H'
def rowsSmall : PyData → Prop
  | .tuple ds => ds.length ≤ 40000 ∧ ∀ d ∈ ds, ∀ es, d = .tuple es → es.length ≤ 40000
  | _ => True
def spProg (K : PySem.W.Frag) : Sp := fun vs H Q _ => ∃ v d, vs = [v] ∧ Dx K H v d ∧ rowsSmall d ∧ ∀ H', Ex H H' → Q (.bl (progFits d)) H'
section
variable {P : Program} {w : World} {K : PySem.W.Frag} {mg : Str → Option Value} {base : Heap}
theorem ok_is_whole (T : Tp w K mg) : FnOk P w K mg base CX0 1 T.f_is_whole T.d_is_whole ["thing"] (spWhole K) := by
  refine T.F_is_whole.ok sc_is_whole (fun vs H Q E h => ?_) (fun cdv A outer s H vs Q E hr h => ?_)
  · obtain ⟨v, d, rfl, _⟩ := h
    rfl
  obtain ⟨v, d, rfl, hd, q⟩ := h
  refine ⟨_, (pss_one (ps_ret (pe_and (pe_callB (isiK (K := K) rfl) rfl T.z_isinstance (by decide +kernel) (pa_cons (pv 0) (pa_cons (pe_bltn (v := .ty "int") rfl T.z_int (by decide +kernel) rfl) pa_nil (star1 rfl)) (star1 rfl)) (by decide) (by decide) (star1 rfl) (starAll rfl)) (pe_one (pe_not (pe_callB (isiK (K := K) rfl) rfl T.z_isinstance (by decide +kernel) (pa_cons (pv 0) (pa_cons (pe_bltn (v := .ty "bool") rfl T.z_bool (by decide +kernel) rfl) pa_nil (star1 rfl)) (star1 rfl)) (by decide) (by decide) (star1 rfl) (starAll rfl))))))), ?_⟩
  refine s_ret (ev_is (ev_andV (ev_isX (ev_var rfl) hd (kt_int d)) fun _ => ev_notV (ev_isX (ev_var rfl) hd (kt_bool d))) ?_) q
  cases d <;> rfl
theorem ok_is_whole_from (T : Tp w K mg) : FnOk P w K mg base CX0 2 T.f_is_whole_from T.d_is_whole_from ["thing", "least"] (spFrom K) := by
  refine T.F_is_whole_from.ok sc_is_whole_from (fun vs H Q E h => ?_) (fun cdv A outer s H vs Q E hr h => ?_)
  · obtain ⟨v, d, k, rfl, _⟩ := h
    rfl
  obtain ⟨v, d, k, rfl, hd, q⟩ := h
  refine ⟨_, (pss_one (ps_ret (pe_and (pe_call (ok_is_whole T) (hr.mono (by decide)) rfl T.m_is_whole T.F_is_whole.kp (b_is_whole T) .nil pass0 (pa_cons (pv 0) pa_nil (star1 rfl)) (by decide) (star1 rfl) (starAll rfl)) (pe_one (pe_cmpR op_ge (pv 0) (pv 1) (nomark _)))))), ?_⟩
  refine s_ret (ev_is (ev_andV (b := wholeFrom d k) (ev_call (ea_cons (ev_var rfl) ea_nil) fun H1 e Q' q' E => ⟨v, d, rfl, dx_mono e hd, q'⟩) fun hw => ?_) ?_) q
  · cases hd with
    | int i => exact ev_I0 (ev_var rfl) (ev_var rfl)
    | _ => cases hw
  · cases d <;> rfl
theorem ok_is_row_number (T : Tp w K mg) : FnOk P w K mg base CX0 3 T.f_is_row_number T.d_is_row_number ["thing", "many"] (spNum K) := by
  refine T.F_is_row_number.ok sc_is_row_number (fun vs H Q E h => ?_) (fun cdv A outer s H vs Q E hr h => ?_)
  · obtain ⟨v, d, k, rfl, _⟩ := h
    rfl
  obtain ⟨v, d, k, rfl, hd, q⟩ := h
  refine ⟨_, (pss_one (ps_ret (pe_and (pe_call (ok_is_whole_from T) (hr.mono (by decide)) rfl T.m_is_whole_from T.F_is_whole_from.kp (b_is_whole_from T) .nil pass0 (pa_cons (pv 0) (pa_cons pe_int pa_nil (star1 rfl)) (star1 rfl)) (by decide) (star1 rfl) (starAll rfl)) (pe_one (pe_cmpR op_lt (pv 0) (pv 1) (nomark _)))))), ?_⟩
  refine s_ret (ev_is (ev_andV (a := wholeFrom d 0) (b := rowNum d k) (ev_call (ea_cons (ev_var rfl) (ea_cons ev_c ea_nil)) fun H1 e Q' q' E => ⟨v, d, 0, rfl, dx_mono e hd, q'⟩) fun hw => ?_) ?_) q
  · cases hd with
    | int i =>
      refine ev_is (ev_I0 (ev_var rfl) (ev_var rfl)) ?_
      have h0 : (0 : Int) ≤ i := of_decide_eq_true hw
      show V.bl (decide (i < k)) = V.bl (decide (0 ≤ i) && decide (i < k))
      rw [decide_eq_true h0, Bool.true_and]
    | _ => cases hw
  · cases d <;> simp [wholeFrom, rowNum]
theorem ok_word_fits (T : Tp w K mg) : FnOk P w K mg base CX0 1 T.f_word_fits T.d_word_fits ["row", "many"] (spFit K fun ds _ => wordFits ds) := by
  refine T.F_word_fits.ok sc_word_fits (fun vs H Q E h => ?_) (fun cdv A outer s H vs Q E hr h => ?_)
  · obtain ⟨a, xs, ds, k, rfl, _⟩ := h
    rfl
  obtain ⟨a, xs, ds, k, rfl, hs, hd, hz, q⟩ := h
  refine ⟨_, (pss_one (ps_ret (pe_cmpR op_eq (pe_callB (lenK (K := K) rfl) rfl T.z_len PySem.boot_len (pa_cons (pv 0) pa_nil (star1 rfl)) (by decide) (by decide) (star1 rfl) (starAll rfl)) pe_int (nomark _)))), ?_⟩
  refine s_ret (ev_is (ev_eq (ev_lenT (ev_var rfl) hs) ev_c rfl) ?_) q
  rw [dxa_len hd]
  unfold wordFits
  congr 1
  simp
  omega
theorem ok_take_fits (T : Tp w K mg) : FnOk P w K mg base CX0 3 T.f_take_fits T.d_take_fits ["row", "many"] (spFit K fun ds _ => takeFits ds) := by
  refine T.F_take_fits.ok sc_take_fits (fun vs H Q E h => ?_) (fun cdv A outer s H vs Q E hr h => ?_)
  · obtain ⟨a, xs, ds, k, rfl, _⟩ := h
    rfl
  obtain ⟨a, xs, ds, k, rfl, hs, hd, hz, q⟩ := h
  refine ⟨_, (pss_one (ps_ret (pe_and (pe_cmpR op_eq (pe_callB (lenK (K := K) rfl) rfl T.z_len PySem.boot_len (pa_cons (pv 0) pa_nil (star1 rfl)) (by decide) (by decide) (star1 rfl) (starAll rfl)) pe_int (nomark _)) (pe_one (pe_or (pe_cmp (pc_isN (pe_ix (ixTK (K := K) rfl) (pv 0) pe_int (fun _ _ => rfl)))) (pe_one (pe_call (ok_is_whole_from T) (hr.mono (by decide)) rfl T.m_is_whole_from T.F_is_whole_from.kp (b_is_whole_from T) .nil pass0 (pa_cons (pe_ix (ixTK (K := K) rfl) (pv 0) pe_int (fun _ _ => rfl)) (pa_cons pe_int pa_nil (star1 rfl)) (star1 rfl)) (by decide) (star1 rfl) (starAll rfl)))))))), ?_⟩
  refine s_ret (ev_is (ev_andV (b := takeFits ds) (ev_eq (ev_lenT (ev_var rfl) hs) ev_c rfl) fun hl => ?_) (congrArg V.bl (and_of fun hb => is_len (m := 2) ((dxa_len hd).trans (takeFits_len hb))))) q
  obtain ⟨x, y, d, f, rfl, rfl, hx, hy⟩ := dxb2 hd (len_is (m := 2) hl)
  refine ev_is (ev_orV (ev_isN (ev_ixT (v := y) (ev_var rfl) ev_c hs rfl)) fun _ => ev_call (ea_cons (ev_ixT (v := y) (ev_var rfl) ev_c hs rfl) (ea_cons ev_c ea_nil)) fun H1 e Q' q' E => ⟨y, f, 0, rfl, dx_mono e hy, q'⟩) ?_
  cases hy <;> simp [takeFits]
theorem ok_say_fits (T : Tp w K mg) : FnOk P w K mg base CX0 3 T.f_say_fits T.d_say_fits ["row", "many"] (spFit K fun ds _ => sayFits ds) := by
  refine T.F_say_fits.ok sc_say_fits (fun vs H Q E h => ?_) (fun cdv A outer s H vs Q E hr h => ?_)
  · obtain ⟨a, xs, ds, k, rfl, _⟩ := h
    rfl
  obtain ⟨a, xs, ds, k, rfl, hs, hd, hz, q⟩ := h
  refine ⟨_, (pss_one (ps_ret (pe_and (pe_cmpR op_eq (pe_callB (lenK (K := K) rfl) rfl T.z_len PySem.boot_len (pa_cons (pv 0) pa_nil (star1 rfl)) (by decide) (by decide) (star1 rfl) (starAll rfl)) pe_int (nomark _)) (pe_and (pe_call (ok_is_whole_from T) (hr.mono (by decide)) rfl T.m_is_whole_from T.F_is_whole_from.kp (b_is_whole_from T) .nil pass0 (pa_cons (pe_ix (ixTK (K := K) rfl) (pv 0) pe_int (fun _ _ => rfl)) (pa_cons pe_int pa_nil (star1 rfl)) (star1 rfl)) (by decide) (star1 rfl) (starAll rfl)) (pe_one (pe_cmpR op_le (pe_ix (ixTK (K := K) rfl) (pv 0) pe_int (fun _ _ => rfl)) (pe_glob (v := .int 99) rfl T.c_MOST_SAID ⟨_, rfl⟩) (nomark _))))))), ?_⟩
  refine s_ret (ev_is (ev_andV (b := sayFits ds) (ev_eq (ev_lenT (ev_var rfl) hs) ev_c rfl) fun hl => ?_) (congrArg V.bl (and_of fun hb => is_len (m := 2) ((dxa_len hd).trans (sayFits_len hb))))) q
  obtain ⟨x, y, d, f, rfl, rfl, hx, hy⟩ := dxb2 hd (len_is (m := 2) hl)
  refine ev_is (ev_andV (a := wholeFrom f 0) (b := sayFits [d, f]) (ev_call (ea_cons (ev_ixT (v := y) (ev_var rfl) ev_c hs rfl) (ea_cons ev_c ea_nil)) fun H1 e Q' q' E => ⟨y, f, 0, rfl, dx_mono e hy, q'⟩) fun hw => ?_) ?_
  · cases hy with
    | int i =>
      refine ev_is (ev_I0 (ev_ixT (v := .int i) (ev_var rfl) ev_c hs rfl) ev_c) ?_
      have h0 : (0 : Int) ≤ i := of_decide_eq_true hw
      show V.bl (decide (i ≤ 99)) = V.bl (decide (0 ≤ i) && decide (i ≤ 99))
      rw [decide_eq_true h0, Bool.true_and]
    | _ => cases hw
  · cases f <;> simp [wholeFrom, sayFits]
theorem ok_goto_fits (T : Tp w K mg) : FnOk P w K mg base CX0 4 T.f_goto_fits T.d_goto_fits ["row", "many"] (spFit K fun ds k => gotoFits ds k) := by
  refine T.F_goto_fits.ok sc_goto_fits (fun vs H Q E h => ?_) (fun cdv A outer s H vs Q E hr h => ?_)
  · obtain ⟨a, xs, ds, k, rfl, _⟩ := h
    rfl
  obtain ⟨a, xs, ds, k, rfl, hs, hd, hz, q⟩ := h
  refine ⟨_, (pss_one (ps_ret (pe_and (pe_cmpR op_eq (pe_callB (lenK (K := K) rfl) rfl T.z_len PySem.boot_len (pa_cons (pv 0) pa_nil (star1 rfl)) (by decide) (by decide) (star1 rfl) (starAll rfl)) pe_int (nomark _)) (pe_one (pe_call (ok_is_row_number T) (hr.mono (by decide)) rfl T.m_is_row_number T.F_is_row_number.kp (b_is_row_number T) .nil pass0 (pa_cons (pe_ix (ixTK (K := K) rfl) (pv 0) pe_int (fun _ _ => rfl)) (pa_cons (pv 1) pa_nil (star1 rfl)) (star1 rfl)) (by decide) (star1 rfl) (starAll rfl)))))), ?_⟩
  refine s_ret (ev_is (ev_andV (b := gotoFits ds k) (ev_eq (ev_lenT (ev_var rfl) hs) ev_c rfl) fun hl => ?_) (congrArg V.bl (and_of fun hb => is_len (m := 2) ((dxa_len hd).trans (gotoFits_len hb))))) q
  obtain ⟨x, y, d, f, rfl, rfl, hx, hy⟩ := dxb2 hd (len_is (m := 2) hl)
  exact ev_call (ea_cons (ev_ixT (v := y) (ev_var rfl) ev_c hs rfl) (ea_cons (ev_var rfl) ea_nil)) fun H1 e Q' q' E => ⟨y, f, k, rfl, dx_mono e hy, q'⟩
theorem ok_if_fits (T : Tp w K mg) : FnOk P w K mg base CX0 4 T.f_if_fits T.d_if_fits ["row", "many"] (spFit K fun ds k => ifFits ds k) := by
  refine T.F_if_fits.ok sc_if_fits (fun vs H Q E h => ?_) (fun cdv A outer s H vs Q E hr h => ?_)
  · obtain ⟨a, xs, ds, k, rfl, _⟩ := h
    rfl
  obtain ⟨a, xs, ds, k, rfl, hs, hd, hz, q⟩ := h
  refine ⟨_, (pss_one (ps_ret (pe_and (pe_cmpR op_eq (pe_callB (lenK (K := K) rfl) rfl T.z_len PySem.boot_len (pa_cons (pv 0) pa_nil (star1 rfl)) (by decide) (by decide) (star1 rfl) (starAll rfl)) pe_int (nomark _)) (pe_and (pe_call (ok_is_whole T) (hr.mono (by decide)) rfl T.m_is_whole T.F_is_whole.kp (b_is_whole T) .nil pass0 (pa_cons (pe_ix (ixTK (K := K) rfl) (pv 0) pe_int (fun _ _ => rfl)) pa_nil (star1 rfl)) (by decide) (star1 rfl) (starAll rfl)) (pe_one (pe_call (ok_is_row_number T) (hr.mono (by decide)) rfl T.m_is_row_number T.F_is_row_number.kp (b_is_row_number T) .nil pass0 (pa_cons (pe_ix (ixTK (K := K) rfl) (pv 0) pe_int (fun _ _ => rfl)) (pa_cons (pv 1) pa_nil (star1 rfl)) (star1 rfl)) (by decide) (star1 rfl) (starAll rfl))))))), ?_⟩
  refine s_ret (ev_is (ev_andV (b := ifFits ds k) (ev_eq (ev_lenT (ev_var rfl) hs) ev_c rfl) fun hl => ?_) (congrArg V.bl (and_of fun hb => is_len (m := 3) ((dxa_len hd).trans (ifFits_len hb))))) q
  obtain ⟨x, y, z, d, f, g, rfl, rfl, hx, hy, hz⟩ := dxb3 hd (len_is (m := 3) hl)
  exact ev_andV (a := isWhole f) (b := rowNum g k) (ev_call (ea_cons (ev_ixT (v := y) (ev_var rfl) ev_c hs rfl) ea_nil) fun H1 e Q' q' E => ⟨y, f, rfl, dx_mono e hy, q'⟩)
    fun _ => ev_call (ea_cons (ev_ixT (v := z) (ev_var rfl) ev_c hs rfl) (ea_cons (ev_var rfl) ea_nil)) fun H1 e Q' q' E => ⟨z, g, k, rfl, dx_mono e hz, q'⟩
end
section
variable {P : Program} {w : World} {K : PySem.W.Frag} {mg : Str → Option Value} {base : Heap}
theorem ev_callA {i : Nat} {S : Addr → Option Sp} {t : TA} {σ : L2.St} {H : Hp} {vs : List V} {z : V} {f : Addr} {sp : Sp} (hf : σ[i]? = some (some (.ref f))) (hS : S f = some sp) (h : EvA t σ H vs) (hs : SpV sp vs H z) : Ev (tCallA i S t) σ H z := by
  intro H1 e Q q
  exact ⟨f, sp, hf, hS, h H1 e _ fun H2 e2 => hs H2 (e.trans e2) Q (fun H3 e3 => q H3 (e2.trans e3)) _⟩
/-- which promise goes with which def of the table -/
def fitS (T : Tp w K mg) : Addr → Option Sp := fun f =>
  if f = T.f_take_fits then some (spFit K fun ds _ => takeFits ds) else if f = T.f_word_fits then some (spFit K fun ds _ => wordFits ds) else if f = T.f_say_fits then some (spFit K fun ds _ => sayFits ds) else if f = T.f_goto_fits then some (spFit K fun ds k => gotoFits ds k) else if f = T.f_if_fits then some (spFit K fun ds k => ifFits ds k) else none
theorem fit_take (T : Tp w K mg) : fitS T T.f_take_fits = some (spFit K fun ds _ => takeFits ds) := if_pos rfl
theorem fit_word (T : Tp w K mg) : fitS T T.f_word_fits = some (spFit K fun ds _ => wordFits ds) := by
  have n := T.nd
  simp only [List.nodup_cons, List.mem_cons, List.not_mem_nil, or_false, not_or] at n
  unfold fitS
  rw [if_neg (fun z => n.1.1 z.symm), if_pos rfl]
theorem fit_say (T : Tp w K mg) : fitS T T.f_say_fits = some (spFit K fun ds _ => sayFits ds) := by
  have n := T.nd
  simp only [List.nodup_cons, List.mem_cons, List.not_mem_nil, or_false, not_or] at n
  unfold fitS
  rw [if_neg (fun z => n.1.2.1 z.symm), if_neg (fun z => n.2.1.1 z.symm), if_pos rfl]
theorem fit_goto (T : Tp w K mg) : fitS T T.f_goto_fits = some (spFit K fun ds k => gotoFits ds k) := by
  have n := T.nd
  simp only [List.nodup_cons, List.mem_cons, List.not_mem_nil, or_false, not_or] at n
  unfold fitS
  rw [if_neg (fun z => n.1.2.2.1 z.symm), if_neg (fun z => n.2.1.2.1 z.symm), if_neg (fun z => n.2.2.1.1 z.symm), if_pos rfl]
theorem fit_if (T : Tp w K mg) : fitS T T.f_if_fits = some (spFit K fun ds k => ifFits ds k) := by
  have n := T.nd
  simp only [List.nodup_cons, List.mem_cons, List.not_mem_nil, or_false, not_or] at n
  unfold fitS
  rw [if_neg (fun z => n.1.2.2.2 z.symm), if_neg (fun z => n.2.1.2.2 z.symm), if_neg (fun z => n.2.2.1.2 z.symm), if_neg (fun z => n.2.2.2.1 z.symm), if_pos rfl]
theorem fitHeld (T : Tp w K mg) : ∀ f sp, fitS T f = some sp → Held P w K mg base 4 f sp := by
  intro f sp h
  unfold fitS at h
  split at h
  · rename_i e; subst e; cases h; exact ⟨_, _, (ok_take_fits T).mono (by decide), T.F_take_fits.kp, b_take_fits T⟩
  split at h
  · rename_i e; subst e; cases h; exact ⟨_, _, (ok_word_fits T).mono (by decide), T.F_word_fits.kp, b_word_fits T⟩
  split at h
  · rename_i e; subst e; cases h; exact ⟨_, _, (ok_say_fits T).mono (by decide), T.F_say_fits.kp, b_say_fits T⟩
  split at h
  · rename_i e; subst e; cases h; exact ⟨_, _, (ok_goto_fits T).mono (by decide), T.F_goto_fits.kp, b_goto_fits T⟩
  split at h
  · rename_i e; subst e; cases h; exact ⟨_, _, (ok_if_fits T).mono (by decide), T.F_if_fits.kp, b_if_fits T⟩
  cases h
theorem rowFits_no {d : PyData} {k : Int} (h : ∀ z ds, d ≠ .tuple (.str z :: ds)) : rowFits d k = false := by
  unfold rowFits
  split
  · exact absurd rfl (h _ _)
  · rfl
theorem ok_row_fits (T : Tp w K mg) : FnOk P w K mg base CX0 5 T.f_row_fits T.d_row_fits ["row", "many"] (spRowFits K) := by
  refine T.F_row_fits.ok sc_row_fits (fun vs H Q E h => ?_) (fun cdv A outer s H vs Q E hr h => ?_)
  · obtain ⟨v, d, k, rfl, _⟩ := h
    rfl
  obtain ⟨v, d, k, rfl, hd, hz, q⟩ := h
  refine ⟨_, (pss_cons (ps_if (PW.pt (pw_or (pt_not (pt_val (pe_callB (isiK (K := K) rfl) rfl T.z_isinstance (by decide +kernel) (pa_cons (pv 0) (pa_cons (pe_bltn (v := .ty "tuple") rfl T.z_tuple (by decide +kernel) rfl) pa_nil (star1 rfl)) (star1 rfl)) (by decide) (by decide) (star1 rfl) (starAll rfl)))) (pw_or1 (pt_cmpR op_eq (pe_callB (lenK (K := K) rfl) rfl T.z_len PySem.boot_len (pa_cons (pv 0) pa_nil (star1 rfl)) (by decide) (by decide) (star1 rfl) (starAll rfl)) pe_int (nomark _))))) (pss_one (ps_ret pe_bl)) pss_nil)
  (pss_cons (ps_set (i := 2) sc_row_fits.nd rfl (Or.inl rfl) (pe_ix (ixTK (K := K) rfl) (pv 0) pe_int (fun _ _ => rfl)))
  (pss_cons (ps_if (PW.pt (pw_or (pt_not (pt_val (pe_callB (isiK (K := K) rfl) rfl T.z_isinstance (by decide +kernel) (pa_cons (pv 2) (pa_cons (pe_bltn (v := .ty "str") rfl T.z_str (by decide +kernel) rfl) pa_nil (star1 rfl)) (star1 rfl)) (by decide) (by decide) (star1 rfl) (starAll rfl)))) (pw_or1 (pt_cmpR op_notInK (pv 2) (pe_glob (v := .ref T.a_FORMS) rfl T.c_FORMS rfl) (by with_unfolding_all rfl))))) (pss_one (ps_ret pe_bl)) pss_nil)
  (pss_cons (ps_set (i := 3) sc_row_fits.nd rfl (Or.inl rfl) (pe_ix ix_kdict (pe_glob (v := .ref T.a_FORMS) rfl T.c_FORMS rfl) (pv 2) (fun _ _ => rfl)))
  (pss_one (ps_ret (pe_callA (S := fitS T) (fitHeld T) (hr.mono (by decide)) (i := 3) rfl (Or.inl rfl) (pa_cons (pv 0) (pa_cons (pv 1) pa_nil (star1 rfl)) (star1 rfl)) (by decide) (by decide) (star1 rfl) (starAll rfl)))))))), ?_⟩
  by_cases ht : isTupB d = true
  case neg =>
    have hb : isTupB d = false := by simpa using ht
    refine s_if (b := true) (et_is (et_or (b := false) (et_not (et_B (ev_isX (ev_var rfl) hd (kt_tuple d)))) fun h => ?_) (by rw [hb]; rfl)) (fun _ H1 e1 => ?_) (fun h => by cases h)
    · rw [hb] at h
      cases h
    · refine s_ret ev_c fun H2 e2 => ?_
      have e : rowFits d k = false := rowFits_no fun z ds h => by
        subst h
        cases hb
      have q2 := q H2 (e1.trans e2)
      rw [e] at q2
      exact q2
  cases hd with
  | tup hs ha =>
    rename_i a xs ds
    have hz2 : xs.length ≤ 40000 := by rw [dxa_len ha]; exact hz ds rfl
    have hl : EvT (tOr (tNot (tB (tCB (rIsi K) (tCons (tVar 0) (tCons (tC (.ty "tuple")) tNil))))) (tTest (tOp rEq (tCB (rLenS K) (tCons (tVar 0) tNil)) (tC (.int 0))))) (start N_row_fits [.ref a, .int k]) H (decide (V.int (xs.length : Int) = V.int 0)) :=
      et_is (et_or (et_not (et_B (ev_isX (ev_var rfl) (Dx.tup hs ha) (kt_tuple (.tuple ds))))) fun _ => et_test (ev_eq (ev_lenT (ev_var rfl) hs) ev_c rfl)) rfl
    refine s_if hl (fun h0 H1 e1 => ?_) (fun h0 H1 e1 => ?_)
    · have e0 : xs.length = 0 := len_is (m := 0) h0
      refine s_ret ev_c fun H2 e2 => ?_
      have e : rowFits (.tuple ds) k = false := rowFits_no fun z es h => by
        cases h
        have := dxa_len ha
        rw [e0] at this
        cases this
      have q2 := q H2 (e1.trans e2)
      rw [e] at q2
      exact q2
    · cases ha with
      | nil => exact absurd h0 (by decide)
      | cons hx hr' =>
        rename_i x xs' d ds'
        refine s_asg (v := x) (ev_ixT (v := x) (ev_var rfl) ev_c (ex_t e1 hs) ?_) fun H2 e2 => ?_
        · simp [atI, ixN]
        have hx2 := dx_mono (e1.trans e2) hx
        by_cases hst : isStrB d = true
        case neg =>
          have hb : isStrB d = false := by simpa using hst
          refine s_if (b := true) (et_is (et_or (b := false) (et_not (et_B (ev_isX (ev_var rfl) hx2 (kt_str d)))) fun h => ?_) (by rw [hb]; rfl)) (fun _ H3 e3 => ?_) (fun h => by cases h)
          · rw [hb] at h
            cases h
          · refine s_ret ev_c fun H4 e4 => ?_
            have e : rowFits (.tuple (d :: ds')) k = false := rowFits_no fun z es h => by
              cases h
              cases hb
            have q2 := q H4 (((e1.trans e2).trans e3).trans e4)
            rw [e] at q2
            exact q2
        cases hx with
        | str z =>
          refine s_if (et_is (et_or (et_not (et_B (ev_isX (ev_var rfl) hx2 (kt_str (.str z))))) fun _ => et_test (ev_op (ev_var rfl) ev_c (rv_notInK T.D_FORMS))) (Bool.false_or _)) (fun h1 H3 e3 => ?_) (fun h1 H3 e3 => ?_)
          · refine s_ret ev_c fun H4 e4 => ?_
            have e : rowFits (.tuple (.str z :: ds')) k = false := by
              unfold rowFits
              simp only at h1 ⊢
              split at h1
              · cases h1
              · rename_i n1
                rw [if_neg n1]
                split at h1
                · cases h1
                · rename_i n2
                  rw [if_neg n2]
                  split at h1
                  · cases h1
                  · rename_i n3
                    rw [if_neg n3]
                    split at h1
                    · cases h1
                    · rename_i n4
                      rw [if_neg n4]
                      split at h1
                      · cases h1
                      · rename_i n5
                        rw [if_neg n5]
                        split at h1
                        · cases h1
                        · rename_i n6
                          rw [if_neg n6]
            have q2 := q H4 (((e1.trans e2).trans e3).trans e4)
            rw [e] at q2
            exact q2
          · have hs3 := ex_t ((e1.trans e2).trans e3) hs
            have ha3 : DxAll K H3 (.str z :: xs') (.str z :: ds') := dxa_mono ((e1.trans e2).trans e3) (.cons (.str z) hr')
            have go : ∀ (f : Addr) (g : List PyData → Int → Bool), (if z = "take" then some (Value.ref T.f_take_fits) else if z = "try" then some (.ref T.f_word_fits) else if z = "let" then some (.ref T.f_word_fits) else if z = "say" then some (.ref T.f_say_fits) else if z = "goto" then some (.ref T.f_goto_fits) else if z = "if" then some (.ref T.f_if_fits) else none) = some (.ref f) →
                fitS T f = some (spFit K g) → g (.str z :: ds') k = rowFits (.tuple (.str z :: ds')) k →
                tSeq (tAsg (tOp (rIxD K w) (tC (.ref T.a_FORMS)) (tVar 2)) (gName 3)) (tRet (tCallA 3 (fitS T) (tCons (tVar 0) (tCons (tVar 1) tNil)))) { nx := fun _ H' => Q .non H', rt := Q } ((start N_row_fits [.ref a, .int k]).set 2 (some (.str z))) H3 := by
              intro f g hf hh hg
              refine s_asg (v := .ref f) (ev_op ev_c (ev_var rfl) (rv_ixD T.D_FORMS hf)) fun H4 e4 => ?_
              refine s_ret (ev_callA (f := f) (sp := spFit K g) (z := .bl (rowFits (.tuple (.str z :: ds')) k)) rfl hh (ea_cons (ev_var rfl) (ea_cons (ev_var rfl) ea_nil)) ?_) fun H5 e5 => q H5 ((((e1.trans e2).trans e3).trans e4).trans e5)
              intro H6 e6 Q' q' E'
              rw [← hg] at q'
              exact ⟨a, _, _, k, rfl, ex_t (e4.trans e6) hs3, dxa_mono (e4.trans e6) ha3, hz2, q'⟩
            by_cases n1 : z = "take"
            · exact go _ _ (by rw [if_pos n1]) (fit_take T) (by unfold rowFits; simp only [if_pos n1])
            by_cases n2 : z = "try"
            · exact go _ _ (by rw [if_neg n1, if_pos n2]) (fit_word T) (by unfold rowFits; simp only [if_neg n1, if_pos n2])
            by_cases n3 : z = "let"
            · exact go _ _ (by rw [if_neg n1, if_neg n2, if_pos n3]) (fit_word T) (by unfold rowFits; simp only [if_neg n1, if_neg n2, if_pos n3])
            by_cases n4 : z = "say"
            · exact go _ _ (by rw [if_neg n1, if_neg n2, if_neg n3, if_pos n4]) (fit_say T) (by unfold rowFits; simp only [if_neg n1, if_neg n2, if_neg n3, if_pos n4])
            by_cases n5 : z = "goto"
            · exact go _ _ (by rw [if_neg n1, if_neg n2, if_neg n3, if_neg n4, if_pos n5]) (fit_goto T) (by unfold rowFits; simp only [if_neg n1, if_neg n2, if_neg n3, if_neg n4, if_pos n5])
            by_cases n6 : z = "if"
            · exact go _ _ (by rw [if_neg n1, if_neg n2, if_neg n3, if_neg n4, if_neg n5, if_pos n6]) (fit_if T) (by unfold rowFits; simp only [if_neg n1, if_neg n2, if_neg n3, if_neg n4, if_neg n5, if_pos n6])
            · simp only [if_neg n1, if_neg n2, if_neg n3, if_neg n4, if_neg n5, if_neg n6] at h1
              cases h1
        | _ => cases hst
  | _ => cases ht
theorem all_range {n : Nat} {ds : List PyData} (hl : n = ds.length) : ((List.range n).map fun i => rowFits (ds.getD i .none) ds.length).all id = progFits (.tuple ds) := by
  unfold progFits
  rw [hl, List.all_map]
  rw [Bool.eq_iff_iff, List.all_eq_true, List.all_eq_true]
  constructor
  · intro h d hd
    obtain ⟨i, hi, e⟩ := List.getElem_of_mem hd
    have := h i (List.mem_range.mpr hi)
    simp only [Function.comp, id] at this
    rw [List.getD_eq_getElem?_getD, List.getElem?_eq_getElem hi] at this
    simpa [e] using this
  · intro h i hi
    have hi := List.mem_range.mp hi
    simp only [Function.comp, id]
    rw [List.getD_eq_getElem?_getD, List.getElem?_eq_getElem hi]
    exact h _ (List.getElem_mem hi)
theorem ok_is_program (T : Tp w K mg) : FnOk P w K mg base CX0 6 T.f_is_program T.d_is_program ["thing"] (spProg K) := by
  refine T.F_is_program.ok sc_is_program (fun vs H Q E h => ?_) (fun cdv A outer s H vs Q E hr h => ?_)
  · obtain ⟨v, d, rfl, _⟩ := h
    rfl
  obtain ⟨v, d, rfl, hd, hz, q⟩ := h
  refine ⟨_, (pss_cons (ps_if (pt_not (pt_val (pe_callB (isiK (K := K) rfl) rfl T.z_isinstance (by decide +kernel) (pa_cons (pv 0) (pa_cons (pe_bltn (v := .ty "tuple") rfl T.z_tuple (by decide +kernel) rfl) pa_nil (star1 rfl)) (star1 rfl)) (by decide) (by decide) (star1 rfl) (starAll rfl)))) (pss_one (ps_ret pe_bl)) pss_nil)
  (pss_one (ps_ret (pe_callB (allK (K := K) rfl rfl) rfl T.z_all (by decide +kernel) (pa_cons (pe_lc (own := [("row", 1)]) (g := gName 1) (tt := tYes) rfl sc_is_program.nd (pi_tup (pv 0)) (blkOk_by (N := N_is_program) (sc := defScope s_is_program) (by decide +kernel)) (fun _ _ _ _ _ => (pg_name (i := 1) sc_is_program.nd rfl (Or.inl rfl))) (fun _ _ _ _ _ => pts_nil) (fun _ _ _ _ _ => (pe_call (ok_row_fits T) (hr.mono (by decide)) rfl T.m_row_fits T.F_row_fits.kp (b_row_fits T) .nil pass0 (pa_cons (pv 1) (pa_cons (pe_callB (lenK (K := K) rfl) rfl T.z_len PySem.boot_len (pa_cons (pv 0) pa_nil (star1 rfl)) (by decide) (by decide) (star1 rfl) (starAll rfl)) pa_nil (star1 rfl)) (star1 rfl)) (by decide) (star1 rfl) (starAll rfl)))) pa_nil (star1 rfl)) (by decide) (by decide) (star1 rfl) (starAll rfl))))), ?_⟩
  refine s_if (et_not (et_B (ev_isX (ev_var rfl) hd (kt_tuple d)))) (fun hb H1 e1 => ?_) (fun hb H1 e1 => ?_)
  · refine s_ret ev_c fun H2 e2 => ?_
    have e : progFits d = false := by
      cases d <;> first | rfl | cases hb
    have q2 := q H2 (e1.trans e2)
    rw [e] at q2
    exact q2
  · cases hd with
    | tup hs ha =>
      rename_i a xs ds
      have hl := dxa_len ha
      have hz1 : ds.length ≤ 40000 := hz.1
      refine s_next ?_
      dsimp only
      refine s_ret (ev_is (ev_allN (bs := (List.range xs.length).map fun i => rowFits (ds.getD i .none) ds.length) ?_) (w := .bl (progFits (.tuple ds))) ?_) ?_
      rotate_left 2
      · exact fun H2 e2 => q H2 (e1.trans e2)
      · have c := el_lcT (K := K) (σ := start N_is_program [.ref a]) (H := H1) (tl := tVar 0) (tt := tYes) (te := tCall (spRowFits K) [] E0 (tCons (tVar 1) (tCons (tCB (rLenS K) (tCons (tVar 0) tNil)) tNil))) (j := 1) (vs := [1]) (fun _ => true) (fun i => .bl (rowFits (ds.getD i .none) ds.length))
          (ev_var rfl) (ex_t e1 hs) (by omega) (fun x => rfl) (fun i x H2 e2 hi => et_yes) (fun i x H2 e2 hi _ => ?_)
        · rw [given_all] at c
          rw [List.map_map]
          exact c
        · obtain ⟨d, h1, h2⟩ := dxa_get ha hi
          have e : ds.getD i .none = d := by rw [List.getD_eq_getElem?_getD, h1]; rfl
          rw [e]
          refine ev_call (vs := [x, .int xs.length]) (ea_cons (ev_var rfl) (ea_cons (ev_lenT (ev_var rfl) (ex_t (e1.trans e2) hs)) ea_nil)) fun H3 e3 Q' q' E' => ⟨x, d, (xs.length : Int), rfl, dx_mono ((e1.trans e2).trans e3) h2, ?_, ?_⟩
          · intro es hes
            exact hz.2 d (List.mem_of_getElem? h1) es hes
          · rw [hl]
            exact q'
      · exact congrArg V.bl (all_range hl)
    | _ => cases hb
end
/-! ### tuples, names -/
def tupOf (d : PyData) (k : Int) : Bool := match d with
  | .tuple ds => decide ((ds.length : Int) = k)
  | _ => false
def spTupOf (K : PySem.W.Frag) : Sp := fun vs H Q _ => ∃ v d k, vs = [v, .int k] ∧ Dx K H v d ∧ ∀ H', Ex H H' → Q (.bl (tupOf d k)) H'
def shortStr : PyData → Prop
  | .str s => s.length ≤ 1000000
  | _ => True
def lettersB (z : Str) : Bool := z.cps.toList.all fun c => decide (c ∈ ("abcdefghijklmnopqrstuvwxyz" : Str).cps.toList)
def spLetters (K : PySem.W.Frag) : Sp := fun vs H Q _ => ∃ z : Str, vs = [.str z] ∧ z.cps.size ≤ 40000 ∧ ∀ H', Ex H H' → Q (.bl (decide (1 ≤ z.length) && lettersB z)) H'
def spIsName (K : PySem.W.Frag) : Sp := fun vs H Q _ => ∃ v d, vs = [v] ∧ Dx K H v d ∧ shortStr d ∧ ∀ H', Ex H H' → Q (.bl (isNm d)) H'
section
variable {P : Program} {w : World} {K : PySem.W.Frag} {mg : Str → Option Value} {base : Heap}
theorem ok_is_tuple_of (T : Tp w K mg) : FnOk P w K mg base CX0 1 T.f_is_tuple_of T.d_is_tuple_of ["thing", "many"] (spTupOf K) := by
  refine T.F_is_tuple_of.ok sc_is_tuple_of (fun vs H Q E h => ?_) (fun cdv A outer s H vs Q E hr h => ?_)
  · obtain ⟨v, d, k, rfl, _⟩ := h
    rfl
  obtain ⟨v, d, k, rfl, hd, q⟩ := h
  refine ⟨_, (pss_one (ps_ret (pe_and (pe_callB (isiK (K := K) rfl) rfl T.z_isinstance (by decide +kernel) (pa_cons (pv 0) (pa_cons (pe_bltn (v := .ty "tuple") rfl T.z_tuple (by decide +kernel) rfl) pa_nil (star1 rfl)) (star1 rfl)) (by decide) (by decide) (star1 rfl) (starAll rfl)) (pe_one (pe_cmpR op_eq (pe_callB (lenK (K := K) rfl) rfl T.z_len PySem.boot_len (pa_cons (pv 0) pa_nil (star1 rfl)) (by decide) (by decide) (star1 rfl) (starAll rfl)) (pv 1) (nomark _)))))), ?_⟩
  refine s_ret (ev_is (ev_andV (b := tupOf d k) (ev_isX (ev_var rfl) hd (kt_tuple d)) fun ht => ?_) ?_) q
  · cases hd with
    | tup hs ha =>
      refine ev_is (ev_eq (ev_lenT (ev_var rfl) hs) (ev_var rfl) rfl) ?_
      rw [dxa_len ha]
      simp [tupOf]
    | _ => cases ht
  · cases d <;> simp [tupOf, isTupB]
theorem letters_all {z : Str} : ((List.range z.cps.size).map fun i => decide (z.cps.getD i 0 ∈ ("abcdefghijklmnopqrstuvwxyz" : Str).cps.toList)).all id = lettersB z := by
  unfold lettersB
  rw [List.all_map, Bool.eq_iff_iff, List.all_eq_true, List.all_eq_true]
  constructor
  · intro h c hc
    obtain ⟨i, hi, e⟩ := List.getElem_of_mem hc
    have hi2 : i < z.cps.size := by simpa using hi
    have := h i (List.mem_range.mpr hi2)
    simp only [Function.comp, id] at this
    have e2 : z.cps.getD i 0 = c := by
      rw [← e]
      simp [Array.getD_eq_getD_getElem?, hi2]
    rw [e2] at this
    exact this
  · intro h i hi
    have hi2 := List.mem_range.mp hi
    simp only [Function.comp, id]
    refine h _ ?_
    have e2 : z.cps.getD i 0 = z.cps[i] := by simp [Array.getD_eq_getD_getElem?, hi2]
    rw [e2]
    simp
theorem ev_lenS {z : Str} {i : Nat} {H2 : Hp} {σ' : L2.St} (hz : z.length ≤ 1000000) (hσ : σ'[i]? = some (some (.str z))) : Ev (tCB (fun xs H Q => ∃ x n, xs = [x] ∧ LenV K x H n ∧ Q (.int n) H) (tCons (tVar i) tNil)) σ' H2 (.int (z.length : Int)) := fun H3 e3 Q' q' => ⟨_, hσ, .str z, z.length, rfl, ⟨Nat.le_trans hz (by decide), rfl⟩, q' H3 (Ex.refl H3)⟩
theorem ok_is_letters (T : Tp w K mg) : FnOk P w K mg base CX0 1 T.f_is_letters T.d_is_letters ["word"] (spLetters K) := by
  refine T.F_is_letters.ok sc_is_letters (fun vs H Q E h => ?_) (fun cdv A outer s H vs Q E hr h => ?_)
  · obtain ⟨z, rfl, _⟩ := h
    rfl
  obtain ⟨z, rfl, hz, q⟩ := h
  refine ⟨_, (pss_one (ps_ret (pe_and (pe_cmpR op_gt (pe_callB call_len rfl T.z_len PySem.boot_len (pa_cons (pv 0) pa_nil (star1 rfl)) (by decide) (by decide) (star1 rfl) (starAll rfl)) pe_int (nomark _)) (pe_one (pe_callB (allK (K := K) rfl rfl) rfl T.z_all (by decide +kernel) (pa_cons (pe_lc (own := [("sign", 1)]) (g := gName 1) (tt := tYes) rfl sc_is_letters.nd (pi_str (pv 0)) (blkOk_by (N := N_is_letters) (sc := defScope s_is_letters) (by decide +kernel)) (fun _ _ _ _ _ => (pg_name (i := 1) sc_is_letters.nd rfl (Or.inl rfl))) (fun _ _ _ _ _ => pts_nil) (fun _ _ _ _ _ => (pe_cmpR op_in_sign (pv 1) (pe_glob (v := .str "abcdefghijklmnopqrstuvwxyz") rfl T.c_LETTERS ⟨_, rfl⟩) (by with_unfolding_all rfl)))) pa_nil (star1 rfl)) (by decide) (by decide) (star1 rfl) (starAll rfl)))))), ?_⟩
  have hz2 : z.length ≤ 1000000 := Nat.le_trans (show z.cps.size ≤ 40000 from hz) (by decide)
  refine s_ret (ev_andV (ev_is (ev_I0 (ev_lenS hz2 rfl) ev_c) (w := .bl (decide (1 ≤ z.length))) ?_) fun _ => ev_is (ev_allN (bs := (List.range z.cps.size).map fun i => decide (z.cps.getD i 0 ∈ ("abcdefghijklmnopqrstuvwxyz" : Str).cps.toList)) ?_) (w := .bl (lettersB z)) ?_) q
  · congr 1
    exact decide_eq_decide.mpr (by omega)
  · have c := el_lcS (σ := start N_is_letters [.str z]) (H := H) (z := z) (tl := tVar 0) (te := tOp (fun x y H Q => ∃ (c : Nat) (z : Str), x = .str ⟨#[c]⟩ ∧ y = .str z ∧ Q (.bl (decide (c ∈ z.cps.toList))) H) (tVar 1) (tC (.str "abcdefghijklmnopqrstuvwxyz"))) (j := 1) (vs := [1]) (fun i => .bl (decide (z.cps.getD i 0 ∈ ("abcdefghijklmnopqrstuvwxyz" : Str).cps.toList))) (ev_var rfl) hz (fun x => rfl) (fun i c H3 e3 hi => ?_)
    · rw [List.map_map]
      exact c
    · have e : z.cps.getD i 0 = c := by simp [Array.getD_eq_getD_getElem?, hi]
      rw [e]
      exact ev_op (ev_var rfl) ev_c fun H4 _ Q' q' => ⟨c, _, rfl, rfl, q' H4 (Ex.refl H4)⟩
  · rw [letters_all]
theorem ok_is_name (T : Tp w K mg) : FnOk P w K mg base CX0 2 T.f_is_name T.d_is_name ["thing"] (spIsName K) := by
  refine T.F_is_name.ok sc_is_name (fun vs H Q E h => ?_) (fun cdv A outer s H vs Q E hr h => ?_)
  · obtain ⟨v, d, rfl, _⟩ := h
    rfl
  obtain ⟨v, d, rfl, hd, hsh, q⟩ := h
  refine ⟨_, (pss_one (ps_ret (pe_and (pe_callB (isiK (K := K) rfl) rfl T.z_isinstance (by decide +kernel) (pa_cons (pv 0) (pa_cons (pe_bltn (v := .ty "str") rfl T.z_str (by decide +kernel) rfl) pa_nil (star1 rfl)) (star1 rfl)) (by decide) (by decide) (star1 rfl) (starAll rfl)) (pe_and (pe_cmpR op_le (pe_callB call_len rfl T.z_len PySem.boot_len (pa_cons (pv 0) pa_nil (star1 rfl)) (by decide) (by decide) (star1 rfl) (starAll rfl)) (pe_glob (v := .int 8) rfl T.c_LONGEST ⟨_, rfl⟩) (nomark _)) (pe_one (pe_call (ok_is_letters T) (hr.mono (by decide)) rfl T.m_is_letters T.F_is_letters.kp (b_is_letters T) .nil pass0 (pa_cons (pv 0) pa_nil (star1 rfl)) (by decide) (star1 rfl) (starAll rfl))))))), ?_⟩
  refine s_ret (ev_is (ev_andV (b := isNm d) (ev_isX (ev_var rfl) hd (kt_str d)) fun hb => ?_) ?_) q
  · cases hd with
    | str z =>
      have hz : z.length ≤ 1000000 := hsh
      refine ev_is (ev_andV (a := decide ((z.length : Int) ≤ 8)) (b := decide (1 ≤ z.length) && lettersB z) (ev_is (ev_I0 (ev_lenS hz rfl) ev_c) rfl) fun h8 => ev_call (ea_cons (ev_var rfl) ea_nil) fun H1 e Q' q' E => ⟨z, rfl, ?_, q'⟩) ?_
      · have := of_decide_eq_true h8
        have : z.length ≤ 8 := by omega
        exact Nat.le_trans this (by decide)
      · congr 1
        show _ = nameB z
        unfold nameB lettersB
        rw [← Bool.and_assoc, Bool.and_comm (decide ((z.length : Int) ≤ 8))]
        congr 2
        exact decide_eq_decide.mpr (by omega)
    | _ => cases hb
  · cases d <;> first | rfl | simp [isStrB, isNm]
end
theorem q_dputP {td ty tv : TE} {tz : TS} {D : Ends} {σ : L2.St} {H : Hp} (h : tv σ H fun v H1 => td σ H1 fun x H2 => ty σ H2 fun y H3 => ∃ a H4, x = .ref a ∧ DPut H3 a y v H4 ∧ tz D σ H4) : tSeq (sDPut td ty tv) tz D σ H := h
def spForm (K : PySem.W.Frag) : Sp := fun vs H Q _ => ∃ v d, vs = [v] ∧ Dx K H v d ∧ ∀ H', Ex H H' → Q (.bl (formB d)) H'
def PostM (sd : Addr) (ns : List Str) (d : PyData) (H : Hp) (Q : VK) : Prop := ∀ (b : Bool) (ms : List Str) (H' : Hp), KD sd H H' → H' sd = some (.dK (ms.map ky)) → (b = true → ∃ n is, hdM d = some (n, is) ∧ nameB n = true ∧ n ∉ ns ∧ ms = ns ++ [n]) → (b = false → goesB d ns = false) → Q (.bl b) H'
def spMF (K : PySem.W.Frag) : Sp := fun vs H Q _ => ∃ v d sd ns, vs = [v, .ref sd] ∧ Dx K H v d ∧ shorts d ∧ H sd = some (.dK (ns.map ky)) ∧ ns.length ≤ 60000 ∧ PostM sd ns d H Q
def spIsPlan (K : PySem.W.Frag) : Sp := fun vs H Q _ => ∃ v d, vs = [v] ∧ Dx K H v d ∧ shorts d ∧ d.depth ≤ 30 ∧ nodes d ≤ 50000 ∧ ∀ H', Ex H H' → Q (.bl (planB d)) H'
/-- the name that a member tells -/
def tells (d dn : PyData) : Prop := (∀ n, dn = .str n → ∃ is, hdM d = some (n, is)) ∧ ((∀ n, dn ≠ .str n) → hdM d = none)
section
variable {P : Program} {w : World} {K : PySem.W.Frag} {mg : Str → Option Value} {base : Heap}
theorem ok_has_group_form (T : Tp w K mg) : FnOk P w K mg base CX0 3 T.f_has_group_form T.d_has_group_form ["thing"] (spForm K) := by
  refine T.F_has_group_form.ok sc_has_group_form (fun vs H Q E h => ?_) (fun cdv A outer s H vs Q E hr h => ?_)
  · obtain ⟨v, d, rfl, _⟩ := h
    rfl
  obtain ⟨v, d, rfl, hd, q⟩ := h
  refine ⟨_, (pss_cons (ps_if (pt_not (pt_val (pe_call (ok_is_tuple_of T) (hr.mono (by decide)) rfl T.m_is_tuple_of T.F_is_tuple_of.kp (b_is_tuple_of T) .nil pass0 (pa_cons (pv 0) (pa_cons pe_int pa_nil (star1 rfl)) (star1 rfl)) (by decide) (star1 rfl) (starAll rfl)))) (pss_one (ps_ret pe_bl)) pss_nil)
  (pss_cons (ps_asg (pv 0) (pg_tup rfl (pgs_cons (pg_name (i := 1) sc_has_group_form.nd rfl (Or.inl rfl)) (pgs_cons (pg_name (i := 2) sc_has_group_form.nd rfl (Or.inl rfl)) (pgs_cons (pg_name (i := 3) sc_has_group_form.nd rfl (Or.inl rfl)) pgs_nil)))))
  (pss_cons (ps_if (pt_not (pt_val (pe_call (ok_is_whole_from T) (hr.mono (by decide)) rfl T.m_is_whole_from T.F_is_whole_from.kp (b_is_whole_from T) .nil pass0 (pa_cons (pv 2) (pa_cons (pe_glob (v := .int 1) rfl T.c_LEAST ⟨_, rfl⟩) pa_nil (star1 rfl)) (star1 rfl)) (by decide) (star1 rfl) (starAll rfl)))) (pss_one (ps_ret pe_bl)) pss_nil)
  (pss_one (ps_ret (pe_and (pe_callB (isiK (K := K) rfl) rfl T.z_isinstance (by decide +kernel) (pa_cons (pv 3) (pa_cons (pe_bltn (v := .ty "tuple") rfl T.z_tuple (by decide +kernel) rfl) pa_nil (star1 rfl)) (star1 rfl)) (by decide) (by decide) (star1 rfl) (starAll rfl)) (pe_one (pe_cmpR op_gt (pe_callB (lenK (K := K) rfl) rfl T.z_len PySem.boot_len (pa_cons (pv 3) pa_nil (star1 rfl)) (by decide) (by decide) (star1 rfl) (starAll rfl)) pe_int (nomark _))))))))), ?_⟩
  refine q_when (et_not (et_B (ev_call (ea_cons (ev_var rfl) (ea_cons ev_c ea_nil)) fun H1 e Q' q' E => ⟨v, d, 3, rfl, dx_mono e hd, q'⟩))) (fun hb H1 e1 => ?_) (fun hb H1 e1 => ?_)
  · refine s_ret ev_c fun H2 e2 => ?_
    have e : formB d = false := by
      unfold formB
      split
      · simp [tupOf] at hb
      · rfl
    have q2 := q H2 (e1.trans e2)
    rw [e] at q2
    exact q2
  cases hd with
  | tup hs ha =>
    rename_i a xs ds
    have hl : ds.length = 3 := by simp [tupOf] at hb; omega
    obtain ⟨d1, d2, d3, rfl⟩ : ∃ d1 d2 d3, ds = [d1, d2, d3] := by
      match ds, hl with
      | [a, b, c], _ => exact ⟨a, b, c, rfl⟩
    obtain ⟨x, y, z, rfl, h1, h2, h3⟩ := dxa3 ha
    refine q_asgG ?_
    refine ⟨_, rfl, a, _, rfl, ex_t e1 hs, rfl, _, _, rfl, _, _, rfl, _, _, rfl, rfl, ?_⟩
    refine q_when (et_not (et_B (ev_call (ea_cons (ev_var rfl) (ea_cons ev_c ea_nil)) fun H2 e Q' q' E => ⟨y, d2, 1, rfl, dx_mono (e1.trans e) h2, q'⟩))) (fun hb2 H2 e2 => ?_) (fun hb2 H2 e2 => ?_)
    · refine s_ret ev_c fun H3 e3 => ?_
      have e : formB (.tuple [d1, d2, d3]) = false := by
        unfold formB
        split
        · rename_i he
          cases he
          simp only [wholeFrom, Bool.not_eq_true'] at hb2
          rw [hb2, Bool.false_and]
        · rfl
      have q2 := q H3 ((e1.trans e2).trans e3)
      rw [e] at q2
      exact q2
    · refine s_ret (ev_is (ev_andV (b := formB (.tuple [d1, d2, d3])) (ev_isX (ev_var rfl) (dx_mono (e1.trans e2) h3) (kt_tuple d3)) fun ht => ?_) ?_) fun H3 e3 => q H3 ((e1.trans e2).trans e3)
      · cases h3 with
        | tup hs3 ha3 =>
          rename_i a3 xs3 ds3
          refine ev_is (ev_I0 (ev_lenT (ev_var rfl) (ex_t (e1.trans e2) hs3)) ev_c) ?_
          rw [dxa_len ha3]
          cases h2 with
          | int i =>
            simp only [wholeFrom, Bool.not_eq_false'] at hb2
            simp only [formB]
            rw [hb2, Bool.true_and]
            cases ds3 with
            | nil => rfl
            | cons _ _ =>
              congr 1
              simp
          | _ => cases hb2
        | _ => cases ht
      · cases d3 <;> first | rfl | (cases d2 <;> simp [formB, isTupB])
  | _ => cases hb
theorem ok_member_fits (T : Tp w K mg) : FnOk P w K mg base CX0 4 T.f_member_fits T.d_member_fits ["thing", "seen"] (spMF K) := by
  refine T.F_member_fits.ok sc_member_fits (fun vs H Q E h => ?_) (fun cdv A outer s H vs Q E hr h => ?_)
  · obtain ⟨v, d, sd, ns, rfl, _⟩ := h
    rfl
  obtain ⟨v, d, sd, ns, rfl, hd, hsh, hsd, hnl, q⟩ := h
  refine ⟨_, (pss_cons (ps_set (i := 2) sc_member_fits.nd rfl (Or.inl rfl) (pv 0))
  (pss_cons (ps_if (pt_not (pt_val (pe_callB (isiK (K := K) rfl) rfl T.z_isinstance (by decide +kernel) (pa_cons (pv 0) (pa_cons (pe_bltn (v := .ty "str") rfl T.z_str (by decide +kernel) rfl) pa_nil (star1 rfl)) (star1 rfl)) (by decide) (by decide) (star1 rfl) (starAll rfl)))) (pss_cons (ps_if (pt_not (pt_val (pe_call (ok_has_group_form T) (hr.mono (by decide)) rfl T.m_has_group_form T.F_has_group_form.kp (b_has_group_form T) .nil pass0 (pa_cons (pv 0) pa_nil (star1 rfl)) (by decide) (star1 rfl) (starAll rfl)))) (pss_one (ps_ret pe_bl)) pss_nil)
  (pss_one (ps_set (i := 2) sc_member_fits.nd rfl (Or.inl rfl) (pe_ix (ixTK (K := K) rfl) (pv 0) pe_int (fun _ _ => rfl))))) pss_nil)
  (pss_cons (ps_if (PW.pt (pw_or (pt_not (pt_val (pe_call (ok_is_name T) (hr.mono (by decide)) rfl T.m_is_name T.F_is_name.kp (b_is_name T) .nil pass0 (pa_cons (pv 2) pa_nil (star1 rfl)) (by decide) (star1 rfl) (starAll rfl)))) (pw_or1 (pt_cmp (pc_din (hu_of hr) (pv 2) (pv 1)))))) (pss_one (ps_ret pe_bl)) pss_nil)
  (pss_cons (ps_dput (hu_of hr) (pv 1) (pv 2) pe_bl rfl)
  (pss_one (ps_ret pe_bl)))))), ?_⟩
  refine q_asg (v := v) (ev_var rfl) fun H0 e0 => ?_
  refine q_whenM (fun σ' H' => Ex H H' ∧ ∃ x dn, σ' = [some v, some (.ref sd), some x] ∧ Dx K H' x dn ∧ shorts dn ∧ tells d dn) (et_not (et_B (ev_isX (ev_var rfl) (dx_mono e0 hd) (kt_str d)))) ?_ ?_ ?_
  · intro σ' H1 hM
    obtain ⟨e1, x, dn, rfl, hx, hsx, ht⟩ := hM
    have t1 : EvT (tNot (tB (tCall (spIsName K) [] E0 (tCons (tVar 2) tNil)))) [some v, some (.ref sd), some x] H1 (!isNm dn) := et_not (et_B (ev_call (ea_cons (ev_var rfl) ea_nil) fun H2 e Q' q' E => ⟨x, dn, rfl, dx_mono e hx, by cases dn <;> first | trivial | exact hsx, q'⟩))
    cases hn : isNm dn with
    | false =>
      rw [hn] at t1
      refine q_when (b := true) (et_is (et_or (b := false) t1 fun h => by cases h) rfl) (fun _ H2 e2 => ?_) (fun h => by cases h)
      refine s_ret ev_c fun H3 e3 => q false ns H3 (KD.ex ((e1.trans e2).trans e3)) (((e1.trans e2).trans e3) _ _ hsd) (fun h => by cases h) fun _ => ?_
      unfold goesB
      cases dn with
      | str n =>
        obtain ⟨is, hh⟩ := ht.1 n rfl
        rw [hh]
        simp only [isNm] at hn
        simp only [hn, Bool.false_and]
      | _ => rw [ht.2 (fun n z => by cases z)]
    | true =>
      rw [hn] at t1
      cases hx with
      | str n =>
        have hnb : nameB n = true := hn
        obtain ⟨is, hh⟩ := ht.1 n rfl
        refine q_when (et_is (et_or t1 fun _ => et_B (b := decide (n ∈ ns)) ?_) (Bool.false_or _)) (fun hb H2 e2 => ?_) (fun hb H2 e2 => ?_)
        · intro H2 e Q' q'
          refine ⟨_, rfl, _, rfl, sd, _, rfl, DGet.k (k := Sum.inr n) ((e1.trans e) _ _ hsd), ?_⟩
          rw [val_ky]
          exact q' H2 (Ex.refl H2)
        · refine s_ret ev_c fun H3 e3 => q false ns H3 (KD.ex ((e1.trans e2).trans e3)) (((e1.trans e2).trans e3) _ _ hsd) (fun h => by cases h) fun _ => ?_
          unfold goesB
          rw [hh]
          have := of_decide_eq_true hb
          simp [this]
        · have hni : n ∉ ns := of_decide_eq_false hb
          refine q_dputP ?_
          refine ⟨_, rfl, _, rfl, sd, _, rfl, DPut.k (k := Sum.inr n) ((e1.trans e2) _ _ hsd) (sz_lt (by rw [List.length_map]; omega)), ?_⟩
          rw [put_ky hni]
          refine s_ret ev_c fun H3 e3 => q true (ns ++ [n]) H3 ?_ (e3 _ _ upd_same) (fun _ => ⟨n, is, hh, hnb, hni, rfl⟩) (fun h => by cases h)
          intro a o hne ha
          exact e3 _ _ (by rw [upd_ne hne]; exact (e1.trans e2) _ _ ha)
      | _ => cases hn
  · intro R hR hb H1 e1
    have e01 := e0.trans e1
    refine q_when (et_not (et_B (ev_call (ea_cons (ev_var rfl) ea_nil) fun H2 e Q' q' E => ⟨v, d, rfl, dx_mono (e01.trans e) hd, q'⟩))) (fun hf H2 e2 => ?_) (fun hf H2 e2 => ?_)
    · have hfb : formB d = false := by simpa using hf
      refine s_ret ev_c fun H3 e3 => q false ns H3 (KD.ex ((e01.trans e2).trans e3)) (((e01.trans e2).trans e3) _ _ hsd) (fun h => by cases h) fun _ => ?_
      unfold goesB
      have hh : hdM d = none := by
        unfold hdM
        split
        · cases hb
        · rename_i n b ms
          rw [if_neg]
          intro z
          simp only [formB, Bool.and_eq_false_iff, decide_eq_false_iff_not] at hfb
          rcases hfb with y | y
          · exact y z.1
          · exact z.2 (by simpa using y)
        · rfl
      rw [hh]
    · have hfb : formB d = true := by simpa using hf
      obtain ⟨dn, b, ms, rfl, hb1, hms0⟩ : ∃ dn b ms, d = .tuple [dn, .int b, .tuple ms] ∧ 1 ≤ b ∧ ms ≠ [] := by
        unfold formB at hfb
        split at hfb
        · rw [Bool.and_eq_true] at hfb
          refine ⟨_, _, _, rfl, of_decide_eq_true hfb.1, ?_⟩
          intro z
          rw [z] at hfb
          cases hfb.2
        · cases hfb
      cases hd with
      | tup hs ha =>
      rename_i a xs
      obtain ⟨x, y, z, rfl, h1, h2, h3⟩ := dxa3 ha
      simp only [shorts, shortss] at hsh
      refine s_asg (ev_ixT (v := x) (ev_var rfl) ev_c (ex_t (e01.trans e2) hs) rfl) fun H3 e3 => hR _ _ ⟨(e01.trans e2).trans e3, x, dn, rfl, dx_mono ((e01.trans e2).trans e3) h1, hsh.1, fun n hn => ?_, fun hn => ?_⟩
      · subst hn
        exact ⟨ms, by simp only [hdM]; rw [if_pos ⟨hb1, hms0⟩]⟩
      · cases dn with
        | str n => exact (hn n rfl).elim
        | _ => rfl
  · intro hb H1 e1
    have e01 := e0.trans e1
    refine ⟨e01, v, d, rfl, dx_mono e01 hd, hsh, fun n hn => ?_, fun hn => ?_⟩
    · subst hn
      exact ⟨[], rfl⟩
    · cases d with
      | str n => exact (hn n rfl).elim
      | _ => cases hb
theorem ok_is_plan (T : Tp w K mg) : FnOk P w K mg base CX0 5 T.f_is_plan T.d_is_plan ["thing"] (spIsPlan K) := by
  refine T.F_is_plan.ok sc_is_plan (fun vs H Q E h => ?_) (fun cdv A outer s H vs Q E hr h => ?_)
  · obtain ⟨v, d, rfl, _⟩ := h
    rfl
  obtain ⟨v, d, rfl, hd, hsh, hdp, hnd, q⟩ := h
  refine ⟨_, (pss_cons (ps_if (pt_val (pe_callB (isiK (K := K) rfl) rfl T.z_isinstance (by decide +kernel) (pa_cons (pv 0) (pa_cons (pe_bltn (v := .ty "str") rfl T.z_str (by decide +kernel) rfl) pa_nil (star1 rfl)) (star1 rfl)) (by decide) (by decide) (star1 rfl) (starAll rfl))) (pss_one (ps_ret pe_bl)) pss_nil)
  (pss_cons (ps_set (i := 1) sc_is_plan.nd rfl (Or.inl rfl) pe_dnewK)
  (pss_cons (ps_set (i := 2) sc_is_plan.nd rfl (Or.inl rfl) (pe_lst (pa_cons (pv 0) pa_nil (star1 rfl))))
  (pss_cons (ps_while PassesOwn.never (truK (K := K) rfl (pv 2) (by intro _; rfl)) (pss_cons (ps_set (i := 3) sc_is_plan.nd rfl (Or.inl rfl) (pe_bm0 PySem.F.plainAttrs_list PySem.F.slot_list_pop PySem.F.type_list_pop mt_pop (pv 2)))
  (pss_cons (ps_if (pt_not (pt_val (pe_call (ok_member_fits T) (hr.mono (by decide)) rfl T.m_member_fits T.F_member_fits.kp (b_member_fits T) .nil pass0 (pa_cons (pv 3) (pa_cons (pv 1) pa_nil (star1 rfl)) (star1 rfl)) (by decide) (star1 rfl) (starAll rfl)))) (pss_one (ps_ret pe_bl)) pss_nil)
  (pss_one (ps_if (pt_not (pt_val (pe_callB (isiK (K := K) rfl) rfl T.z_isinstance (by decide +kernel) (pa_cons (pv 3) (pa_cons (pe_bltn (v := .ty "str") rfl T.z_str (by decide +kernel) rfl) pa_nil (star1 rfl)) (star1 rfl)) (by decide) (by decide) (star1 rfl) (starAll rfl)))) (pss_one (ps_expr (pe_bm PySem.F.plainAttrs_list PySem.F.slot_list_extend PySem.F.type_list_extend (mt_extendT (K := K) rfl) (pv 2) (pa_cons (pe_ix (ixTK (K := K) rfl) (pv 3) pe_int (fun _ _ => rfl)) pa_nil (star1 rfl))))) pss_nil)))))
  (pss_one (ps_ret pe_bl)))))), ?_⟩
  refine q_when (et_B (ev_isX (ev_var rfl) hd (kt_str d))) (fun hb H1 e1 => ?_) (fun hb H1 e1 => ?_)
  · refine s_ret ev_c fun H2 e2 => ?_
    have e : planB d = false := by
      cases d with
      | str s => rfl
      | _ => cases hb
    have q2 := q H2 (e1.trans e2)
    rw [e] at q2
    exact q2
  have hns : ∀ s, d ≠ .str s := fun s z => by
    subst z
    cases hb
  refine q_asgP ?_
  intro sd hsd
  have eS : Ex H1 (upd H1 sd (.dK [])) := Ex.new hsd
  refine q_asgP ?_
  refine ⟨_, rfl, (by show 1 ≤ sizeLine; decide), fun wl hwl => ?_⟩
  generalize hH2 : upd (upd H1 sd (.dK [])) wl (.lst [v]) = H2
  have eW : Ex (upd H1 sd (.dK [])) H2 := by rw [← hH2]; exact Ex.new hwl
  have e2 : Ex H H2 := (e1.trans eS).trans eW
  have sdH : H sd = none := fresh_back e1 hsd
  have wlH : H wl = none := fresh_back (e1.trans eS) hwl
  have swl : sd ≠ wl := fun z => by
    subst z
    rw [upd_same] at hwl
    cases hwl
  have hsd2 : H2 sd = some (.dK (([] : List Str).map ky)) := eW _ _ upd_same
  have hwl2 : H2 wl = some (.lst [v]) := by rw [← hH2]; exact upd_same
  refine q_while (fun m σ' H' => Ex H H' ∧ ∃ (ns : List Str) (ws : List V) (ds : List PyData) (c : Option V), σ' = [some v, some (.ref sd), some (.ref wl), c] ∧ H' sd = some (.dK (ns.map ky)) ∧ H' wl = some (.lst ws) ∧ DxAll K H ws ds ∧ shortss ds ∧ pileB ds ns = planB d ∧ ns.length + nodess ds ≤ nodes d ∧ nodess ds = m) (nodes d) ?_ ?_
  · exact ⟨e2, [], [v], [d], none, rfl, hsd2, hwl2, .cons hd .nil, ⟨hsh, trivial⟩, (pile_plan hns).symm, by simp [nodess], by simp [nodess]⟩
  intro m σ' H3 hW
  obtain ⟨e3, ns, ws, ds, c, rfl, hsd3, hwl3, hda, hss, hpl, hsz, rfl⟩ := hW
  refine ⟨!ws.isEmpty, et_truL (ev_var rfl) hwl3, fun hb H4 e4 => ?_, fun hb H4 e4 => ?_⟩
  · have hne : ds ≠ [] := fun z => by
      subst z
      cases hda
      cases hb
    obtain ⟨us, x, es, dm, rfl, rfl, hua, hxm⟩ := dxa_snoc hda hne
    rw [nodess_app] at hsz
    simp only [nodess] at hsz
    obtain ⟨hs1, hs2⟩ := shortss_app.mp hss
    have hls := len_nodess es
    refine ⟨fun σ2 H' => Ex H H' ∧ ∃ (ns2 : List Str) (ws2 : List V) (ds2 : List PyData) (c : Option V), σ2 = [some v, some (.ref sd), some (.ref wl), c] ∧ H' sd = some (.dK (ns2.map ky)) ∧ H' wl = some (.lst ws2) ∧ DxAll K H ws2 ds2 ∧ shortss ds2 ∧ pileB ds2 ns2 = planB d ∧ ns2.length + nodess ds2 ≤ nodes d ∧ nodess ds2 < nodess (es ++ [dm]), fun σ2 H' hN => ?_, ?_⟩
    · obtain ⟨a1, ns2, ws2, ds2, c, a2, a3, a4, a5, a6, a7, a8, a9⟩ := hN
      exact ⟨nodess ds2, a9, a1, ns2, ws2, ds2, c, a2, a3, a4, a5, a6, a7, a8, rfl⟩
    refine q_asgP ?_
    refine ⟨.ref wl, rfl, Or.inl ⟨rfl, _, sq_of (e4 _ _ hwl3)⟩, wl, us ++ [x], x, rfl, rfl, e4 _ _ hwl3, by simp, ?_⟩
    generalize hH5 : upd H4 wl (.lst ((us ++ [x]).dropLast)) = H5
    have hwl5 : H5 wl = some (.lst us) := by rw [← hH5, upd_same, List.dropLast_concat]
    have e5 : Ex H H5 := by rw [← hH5]; exact Ex.mut (e3.trans e4) wlH
    have hsd5 : H5 sd = some (.dK (ns.map ky)) := by rw [← hH5, upd_ne swl]; exact e4 _ _ hsd3
    have hdm := nodes_pos dm
    refine q_notB ?_
    refine ⟨_, rfl, _, rfl, x, dm, sd, ns, rfl, dx_mono e5 hxm, hs2.1, hsd5, by omega, fun b2 ms H6 kd6 hsd6 ht hf => ⟨b2, rfl, ?_⟩⟩
    have e6 : Ex H H6 := fun a o ha => kd6 a o (fun z => by rw [z, sdH] at ha; cases ha) (e5 _ _ ha)
    have hwl6 : H6 wl = some (.lst us) := kd6 _ _ (Ne.symm swl) hwl5
    cases b2 with
    | false =>
      refine iteT ?_
      refine s_ret ev_c fun H7 e7 => ?_
      have q2 := q H7 (e6.trans e7)
      rw [← hpl, pile_stop (hf rfl)] at q2
      exact q2
    | true =>
      refine iteF ?_
      obtain ⟨n, is, hh, hnb, hni, rfl⟩ := ht rfl
      rw [pile_step hh hnb hni] at hpl
      have hmn := hdM_nodes hh
      refine s_when (et_not (et_B (ev_isX (ev_var rfl) (dx_mono e6 hxm) (kt_str dm)))) (fun hb2 H7 e7 => ?_) (fun hb2 H7 e7 => ?_)
      · obtain ⟨b, rfl⟩ : ∃ b, dm = .tuple [.str n, .int b, .tuple is] := by
          unfold hdM at hh
          split at hh
          · cases hb2
          · split at hh
            · cases hh
              exact ⟨_, rfl⟩
            · cases hh
          · cases hh
        cases hxm with
        | tup hs ha =>
        rename_i a xs
        obtain ⟨x1, y1, z1, rfl, h1, h2, h3⟩ := dxa3 ha
        cases h3 with
        | tup hs3 ha3 =>
        rename_i ma mxs
        have hml := dxa_len ha3
        have hli := len_nodess is
        have hul := dxa_len hua
        refine s_dropP ?_
        refine ⟨.ref wl, rfl, Or.inl ⟨rfl, _, sq_of (e7 _ _ hwl6)⟩, _, rfl, a, _, 2, .ref ma, rfl, rfl, ex_t (e6.trans e7) hs, rfl, wl, ma, us, mxs, rfl, rfl, e7 _ _ hwl6, ex_t (e6.trans e7) hs3, ?_, ?_⟩
        · exact Nat.le_of_lt (sz_lt (by omega))
        refine ⟨Ex.mut (e6.trans e7) wlH, ns ++ [n], us ++ mxs, es ++ is, _, rfl, ?_, upd_same, dxa_app ha3 hua, shortss_app.mpr ⟨hs1, hdM_shorts hh hs2.1⟩, hpl, ?_, ?_⟩
        · rw [upd_ne swl]; exact e7 _ _ hsd6
        · rw [nodess_app, List.length_append, List.length_singleton]; omega
        · rw [nodess_app, nodess_app]; simp only [nodess]; omega
      · have hi : is = [] := by
          cases dm with
          | str s => cases hh; rfl
          | _ => cases hb2
        subst hi
        rw [List.append_nil] at hpl
        refine ⟨e6.trans e7, ns ++ [n], us, es, _, rfl, e7 _ _ hsd6, e7 _ _ hwl6, hua, hs1, hpl, ?_, ?_⟩
        · rw [List.length_append, List.length_singleton]; omega
        · rw [nodess_app]; simp only [nodess]; omega
  · have hz : ds = [] := by
      cases hda with
      | nil => rfl
      | cons _ _ => cases hb
    subst hz
    refine s_ret ev_c fun H5 e5 => ?_
    have q2 := q H5 ((e3.trans e4).trans e5)
    rw [← hpl, pile_nil] at q2
    exact q2
end
/-! ### the program's rows of a plan -/
def spAF (K : PySem.W.Frag) (d : Nat) : Sp := fun vs H Q _ => ∃ (v : V) (pa : Addr) (n : Str) (b : Int) (ms : List Tr) (p : List Str), vs = [v, .ref pa] ∧ TrV H v (.grp n b ms) ∧ H pa = some (.tup (p.map V.str)) ∧ (Tr.grp n b ms).deep ≤ d ∧ (Tr.grp n b ms).size ≤ 1000 ∧ p.length + d ≤ 1000 ∧
  ∀ r xs H', Ex H H' → H r = none → H' r = some (.lst xs) → RowsB H' xs ((Tr.grp n b ms).rows p) → Q (.ref r) H'
def spAll (K : PySem.W.Frag) : Sp := fun vs H Q _ => ∃ (v : V) (n : Str) (b : Int) (ms : List Tr), vs = [v] ∧ TrV H v (.grp n b ms) ∧ (Tr.grp n b ms).deep ≤ 12 ∧ (Tr.grp n b ms).size ≤ 1000 ∧
  ∀ r xs H', Ex H H' → H r = none → H' r = some (.lst xs) → RowsB H' xs ((Tr.grp n b ms).rows []) → Q (.ref r) H'
def spNames (K : PySem.W.Frag) (f : Tr → List Str) : Sp := fun vs H Q _ => ∃ (v : V) (n : Str) (b : Int) (ms : List Tr), vs = [v] ∧ TrV H v (.grp n b ms) ∧ (Tr.grp n b ms).deep ≤ 12 ∧ (Tr.grp n b ms).size ≤ 1000 ∧
  ∀ a H', Ex H H' → H' a = some (.tup ((f (.grp n b ms)).map V.str)) → Q (.ref a) H'
section
variable {P : Program} {w : World} {K : PySem.W.Frag} {mg : Str → Option Value} {base : Heap}
theorem af_none (T : Tp w K mg) : FnOk P w K mg base CX0 0 T.f_all_from T.d_all_from ["group", "around"] (spAF K 0) := by
  have no : ∀ vs H Q E, ¬ spAF K 0 vs H Q E := fun vs H Q E h => by
    obtain ⟨v, pa, n, b, ms, p, _, _, _, hd, _⟩ := h
    simp [Tr.deep] at hd
  exact ⟨fun vs H Q E h => (no vs H Q E h).elim, fun A outer s H args us vs Q E _ _ _ _ h => (no vs H Q E h).elim⟩
theorem af_more (T : Tp w K mg) {d : Nat} (ih : FnOk P w K mg base CX0 d T.f_all_from T.d_all_from ["group", "around"] (spAF K d)) : FnOk P w K mg base CX0 (d + 1) T.f_all_from T.d_all_from ["group", "around"] (spAF K (d + 1)) := by
  refine T.F_all_from.ok sc_all_from (fun vs H Q E h => ?_) (fun cdv A outer s H vs Q E hr h => ?_)
  · obtain ⟨v, pa, n, b, ms, p, rfl, _⟩ := h
    rfl
  obtain ⟨v, pa, n, b, ms, p, rfl, hv, hpa, hdeep, hsize, hpl, q⟩ := h
  cases hv with
  | grp h1 h2 h3 =>
  rename_i a m xs
  refine ⟨_, (pss_cons (ps_asg (pv 0) (pg_tup rfl (pgs_cons (pg_name (i := 2) sc_all_from.nd rfl (Or.inl rfl)) (pgs_cons (pg_name (i := 3) sc_all_from.nd rfl (Or.inl rfl)) (pgs_cons (pg_name (i := 4) sc_all_from.nd rfl (Or.inl rfl)) pgs_nil)))))
  (pss_cons (ps_set (i := 5) sc_all_from.nd rfl (Or.inl rfl) (pe_lst (pa_cons (pe_tup (pa_cons (pv 2) (pa_cons (pv 3) (pa_cons (pv 1) pa_nil (star1 rfl)) (star1 rfl)) (star1 rfl))) pa_nil (star1 rfl))))
  (pss_cons (ps_set (i := 6) sc_all_from.nd rfl (Or.inl rfl) (pe_tup (pa_cons (pv 2) (StX.pa_star (pv 1) pa_nil) (star1 rfl))))
  (pss_cons (ps_for PassesOwn.never rfl (pi_tup (pv 4)) (pg_name (i := 7) sc_all_from.nd rfl (Or.inl rfl)) (pss_one (ps_if (pt_val (pe_callB (isiK (K := K) rfl) rfl T.z_isinstance (by decide +kernel) (pa_cons (pv 7) (pa_cons (pe_bltn (v := .ty "str") rfl T.z_str (by decide +kernel) rfl) pa_nil (star1 rfl)) (star1 rfl)) (by decide) (by decide) (star1 rfl) (starAll rfl))) (pss_one (ps_expr (pe_bm PySem.F.plainAttrs_list PySem.F.slot_list_append PySem.F.type_list_append mt_append (pv 5) (pa_cons (pe_tup (pa_cons (pv 7) (pa_cons pe_non (pa_cons (pv 6) pa_nil (star1 rfl)) (star1 rfl)) (star1 rfl))) pa_nil (star1 rfl))))) (pss_one (ps_expr (pe_bm PySem.F.plainAttrs_list PySem.F.slot_list_extend PySem.F.type_list_extend mt_extend (pv 5) (pa_cons (pe_call ih hr rfl T.m_all_from T.F_all_from.kp (b_all_from T) .nil pass0 (pa_cons (pv 7) (pa_cons (pv 6) pa_nil (star1 rfl)) (star1 rfl)) (by decide) (star1 rfl) (starAll rfl)) pa_nil (star1 rfl))))))))
  (pss_one (ps_ret (pv 5))))))), ?_⟩
  -- name, bound, members = group
  refine q_asgG ?_
  refine ⟨_, rfl, a, _, rfl, st_of h1, rfl, _, _, rfl, _, _, rfl, _, _, rfl, rfl, ?_⟩
  -- rows = [(name, bound, around)]
  refine q_asgP ?_
  refine ⟨_, rfl, _, rfl, _, rfl, (by show 3 ≤ sizeLine; decide), fun t1 ht1 => ⟨(by show 1 ≤ sizeLine; decide), fun r hr1 => ?_⟩⟩
  generalize hH1 : upd (upd H t1 (.tup [.str n, .int b, .ref pa])) r (.lst [.ref t1]) = H1
  have e1 : Ex H H1 := by rw [← hH1]; exact (Ex.new ht1).trans (Ex.new hr1)
  have rH : H r = none := fresh_back (Ex.new ht1) hr1
  have hr2 : H1 r = some (.lst [.ref t1]) := by rw [← hH1]; exact upd_same
  have row1 : RowB H1 (.ref t1) (n, some b, p) := ⟨t1, pa, rfl, by rw [← hH1]; exact (Ex.new hr1) _ _ upd_same, e1 _ _ hpa⟩
  -- inside = (name, *around)
  refine q_asgP ?_
  refine ⟨_, rfl, _, rfl, pa, p.map V.str, rfl, Or.inl (st_of (e1 _ _ hpa)), sz_of (by simp; omega), fun ia hia => ?_⟩
  generalize hH2 : upd H1 ia (.tup (V.str n :: (p.map V.str ++ []))) = H2
  have e2 : Ex H1 H2 := by rw [← hH2]; exact Ex.new hia
  have hin : H2 ia = some (.tup ((n :: p).map V.str)) := by
    rw [← hH2, upd_same, List.append_nil]
    rfl
  have e12 := e1.trans e2
  have hdp : deeps ms ≤ d := by simp only [Tr.deep] at hdeep; omega
  have hsz : sizes ms ≤ 1000 := by simp only [Tr.size] at hsize; omega
  -- for member in members
  refine q_forT (K := K) (a := m) (xs := xs) (ev_var rfl) (st_of (e12 _ _ h2)) (fun i σ' H' => Ex H H' ∧ H' ia = some (.tup ((n :: p).map V.str)) ∧ ∃ ys c, σ' = [some (.ref a), some (.ref pa), some (.str n), some (.int b), some (.ref m), some (.ref r), some (.ref ia), c] ∧ H' r = some (.lst ys) ∧ RowsB H' ys ((n, some b, p) :: rowss (ms.take i) (n :: p))) ?_ ?_ ?_ ?_
  · intro H3 e3
    refine ⟨e12.trans e3, e3 _ _ hin, [.ref t1], none, rfl, e3 _ _ (e2 _ _ hr2), ?_⟩
    simp only [List.take_zero, rowss]
    exact RowsB.one (row1.tk (TK.ex (e2.trans e3)))
  · intro i σ' H' _ hP
    exact st_of (hP.1 _ _ h2)
  · intro i x σ' H' hx hP
    obtain ⟨e3, hin3, ys, c, rfl, hr3, hrows⟩ := hP
    obtain ⟨t, ht, tv⟩ := trvs_get h3 hx
    have tv3 := trv_tk (TK.ex e3) t x tv
    have hyl : ys.length ≤ 1001 := by
      have := hrows.len
      simp only [List.length_cons, rowss_len] at this
      have := sizes_take ms i
      omega
    have hstep : (n, some b, p) :: rowss (ms.take (i + 1)) (n :: p) = ((n, some b, p) :: rowss (ms.take i) (n :: p)) ++ t.rows (n :: p) := by
      rw [rowss_take ms i t (n :: p) ht]
      rfl
    refine s_if (et_B (ev_isHand (ev_var rfl) tv3)) (fun hb H4 e4 => ?_) (fun hb H4 e4 => ?_)
    · cases tv3 with
      | hand nm =>
        refine ⟨.ref r, rfl, Or.inl ⟨rfl, ys, sq_of (e4 _ _ hr3)⟩, _, rfl, _, rfl, (by show 3 ≤ sizeLine; decide), fun t2 ht2 => ?_⟩
        refine ⟨r, ys, _, rfl, rfl, (Ex.new ht2) _ _ (e4 _ _ hr3), sz_lt (by omega), ?_⟩
        generalize hH5 : upd H4 t2 (.tup [.str nm, .non, .ref ia]) = H5
        have e5 : Ex H4 H5 := by rw [← hH5]; exact Ex.new ht2
        have hr5 : H5 r = some (.lst ys) := e5 _ _ (e4 _ _ hr3)
        have k5 : TK H5 (upd H5 r (.lst (ys ++ [.ref t2]))) := TK.lst hr5
        refine ⟨Ex.mut ((e3.trans e4).trans e5) rH, k5 _ _ (e5 _ _ (e4 _ _ hin3)), ys ++ [.ref t2], _, rfl, upd_same, ?_⟩
        rw [hstep]
        refine RowsB.tk k5 ((hrows.tk (TK.ex (e4.trans e5))).app (RowsB.one ⟨t2, ia, rfl, by rw [← hH5]; exact upd_same, e5 _ _ (e4 _ _ hin3)⟩))
      | grp _ _ _ => cases hb
    · cases tv3 with
      | hand nm => cases hb
      | grp g1 g2 g3 =>
        rename_i a' m' n' b' xs' ms'
        refine ⟨.ref r, rfl, Or.inl ⟨rfl, ys, sq_of (e4 _ _ hr3)⟩, _, rfl, _, rfl, .ref a', ia, n', b', ms', n :: p, rfl, trv_tk (TK.ex e4) _ _ (.grp g1 g2 g3), e4 _ _ hin3, ?_, ?_, ?_, fun b2 zs H5 e5 hb2 hb5 hrw => ?_⟩
        · have := deeps_mem ht
          omega
        · have := sizes_mem ht
          omega
        · simp only [List.length_cons]
          omega
        have hr5 : H5 r = some (.lst ys) := e5 _ _ (e4 _ _ hr3)
        have hzl := hrw.len
        rw [rows_len] at hzl
        have := sizes_mem ht
        refine ⟨r, b2, ys, zs, rfl, rfl, hr5, hb5, sz_of (by omega), ?_⟩
        have k5 : TK H5 (upd H5 r (.lst (ys ++ zs))) := TK.lst hr5
        refine ⟨Ex.mut ((e3.trans e4).trans e5) rH, k5 _ _ (e5 _ _ (e4 _ _ hin3)), ys ++ zs, _, rfl, upd_same, ?_⟩
        rw [hstep]
        exact RowsB.tk k5 ((hrows.tk (TK.ex (e4.trans e5))).app hrw)
  · intro σ' H' hP
    obtain ⟨e3, hin3, ys, c, rfl, hr3, hrows⟩ := hP
    rw [trvs_len h3, List.take_length] at hrows
    refine s_ret (v := .ref r) (ev_var rfl) fun H4 e4 => q r ys H4 (e3.trans e4) rH (e4 _ _ hr3) ?_
    simp only [Tr.rows]
    exact hrows.tk (TK.ex e4)
theorem af_all (T : Tp w K mg) : ∀ d, FnOk P w K mg base CX0 d T.f_all_from T.d_all_from ["group", "around"] (spAF K d)
  | 0 => af_none T
  | d + 1 => af_more T (af_all T d)
theorem ok_all_from (T : Tp w K mg) : FnOk P w K mg base CX0 12 T.f_all_from T.d_all_from ["group", "around"] (spAF K 12) := af_all T 12
theorem ok_all_in (T : Tp w K mg) : FnOk P w K mg base CX0 13 T.f_all_in T.d_all_in ["plan"] (spAll K) := by
  refine T.F_all_in.ok sc_all_in (fun vs H Q E h => ?_) (fun cdv A outer s H vs Q E hr h => ?_)
  · obtain ⟨v, n, b, ms, rfl, _⟩ := h
    rfl
  obtain ⟨v, n, b, ms, rfl, hv, hd, hs, q⟩ := h
  refine ⟨_, (pss_one (ps_ret (pe_call (ok_all_from T) (hr.mono (by decide)) rfl T.m_all_from T.F_all_from.kp (b_all_from T) .nil pass0 (pa_cons (pv 0) (pa_cons (pe_tup pa_nil) pa_nil (star1 rfl)) (star1 rfl)) (by decide) (star1 rfl) (starAll rfl)))), ?_⟩
  refine s_retP ?_
  refine ⟨_, rfl, (by show 0 ≤ sizeLine; decide), fun t ht => ⟨v, t, n, b, ms, [], rfl, trv_tk (TK.new ht) _ _ hv, upd_same, hd, hs, by decide, fun r xs H' e hr' h1 h2 => ?_⟩⟩
  exact q r xs H' ((Ex.new ht).trans e) (fresh_back (Ex.new ht) hr') h1 h2
end
section
variable {P : Program} {w : World} {K : PySem.W.Frag} {mg : Str → Option Value} {base : Heap}
theorem ok_hands_of (T : Tp w K mg) : FnOk P w K mg base CX0 14 T.f_hands_of T.d_hands_of ["plan"] (spNames K handsOf) := by
  refine T.F_hands_of.ok sc_hands_of (fun vs H Q E h => ?_) (fun cdv A outer s H vs Q E hr h => ?_)
  · obtain ⟨v, n, b, ms, rfl, _⟩ := h
    rfl
  obtain ⟨v, n, b, ms, rfl, hv, hdp, hsz, q⟩ := h
  refine ⟨_, (pss_one (ps_ret (pe_callTy call_tuple_of rfl T.z_tuple (by decide +kernel) (pa_cons (pe_lc (own := [("name", 1), ("bound", 2), ("path", 3)]) (g := gTup K 3 (gCons (gName 1) (gCons (gName 2) (gCons (gName 3) gNil)))) rfl sc_hands_of.nd (pi_list (pe_call (ok_all_in T) (hr.mono (by decide)) rfl T.m_all_in T.F_all_in.kp (b_all_in T) .nil pass0 (pa_cons (pv 0) pa_nil (star1 rfl)) (by decide) (star1 rfl) (starAll rfl))) (blkOk_by (N := N_hands_of) (sc := defScope s_hands_of) (by decide +kernel)) (fun _ _ _ _ _ => (pg_tup rfl (pgs_cons (pg_name (i := 1) sc_hands_of.nd rfl (Or.inl rfl)) (pgs_cons (pg_name (i := 2) sc_hands_of.nd rfl (Or.inl rfl)) (pgs_cons (pg_name (i := 3) sc_hands_of.nd rfl (Or.inl rfl)) pgs_nil))))) (fun _ _ _ _ _ => (pts_one (pt_cmp (pc_isN (pv 2))))) (fun _ _ _ _ _ => (pv 1))) pa_nil (star1 rfl)) (by decide) (by decide) (star1 rfl) (starAll rfl)))), ?_⟩
  refine s_retP ?_
  refine ⟨_, rfl, v, n, b, ms, rfl, hv, hdp, hsz, fun r xs H1 e1 hr1 h1 rows => ⟨r, rfl, ⟨xs, sq_of h1⟩, fun D hD => ?_⟩⟩
  generalize hrs : (Tr.grp n b ms).rows [] = rs at rows
  have hlen : rs.length ≤ 1000 := by rw [← hrs, rows_len]; exact hsz
  have hxl := rows.len
  refine lc_list (K := K) (a := r) (xs := xs) (fun i H' => Ex H1 H' ∧ H' D = some (.lst (((rs.take i).filter fun r => !r.2.1.isSome).map fun r => V.str r.1))) ⟨Ex.new hD, upd_same⟩ (fun i H' _ hP => sq_of (hP.1 _ _ h1)) ?_ ?_
  · intro i x H' hx hP
    obtain ⟨e2, hacc⟩ := hP
    obtain ⟨rw', hrw, a, pa, rfl, ha, hpa⟩ := rows.get hx
    obtain ⟨nm, g, p⟩ := rw'
    refine ⟨a, _, rfl, st_of (e2 _ _ ha), rfl, _, _, rfl, _, _, rfl, _, _, rfl, rfl, rfl, _, rfl, _, rfl, ?_⟩
    have hl2 : (((rs.take i).filter fun r => !r.2.1.isSome).map fun r => V.str r.1).length ≤ 1000 := by
      rw [List.length_map]
      exact Nat.le_trans (List.length_filter_le _ _) (by rw [List.length_take]; omega)
    cases g with
    | none =>
      refine iteT ?_
      refine ⟨_, rfl, _, hacc, sz_lt (by omega), Ex.mut e2 hD, ?_⟩
      rw [upd_same, filter_take hrw]
      simp
    | some bd =>
      refine iteF ?_
      refine ⟨e2, ?_⟩
      rw [hacc, filter_take hrw]
      simp
  · intro H' hP
    obtain ⟨e2, hacc⟩ := hP
    rw [hxl, List.take_length] at hacc
    refine ⟨D, _, rfl, Or.inl ⟨sq_of hacc, fun t ht => ?_⟩⟩
    refine q t _ ((e1.trans e2).trans (Ex.new ht)) ?_
    rw [upd_same]
    rw [hands_rows, hrs, List.map_map]
    rfl
end
/-! ### what the program takes for a book -/
def pairB : PyData → Bool
  | .tuple [.str _, p] => progFits p
  | _ => false
def pairName : PyData → Str
  | .tuple (.str z :: _) => z
  | _ => ""
def bookB (ys : List Str) : PyData → Bool
  | .tuple ds => ds.all pairB && decide (ds.map pairName = ys)
  | _ => false
theorem rows_small {d : PyData} (h : nodes d ≤ 20000) : rowsSmall d := by
  cases d with
  | tuple ds =>
    simp only [nodes] at h
    have hl := nodes_lenB ds
    refine ⟨by omega, fun e he es h2 => ?_⟩
    subst h2
    have h1 := nodes_memB he
    simp only [nodes] at h1
    have := nodes_lenB es
    omega
  | _ => trivial
theorem asc_lay {z : Str} (h : asc z) : PyData.strOk z = true := by
  unfold PyData.strOk
  rw [Array.all_eq_true']
  intro c hc
  have := h c (by simpa using hc)
  simp
  omega
theorem shapedL {xs : List Str} (h : ∀ n ∈ xs, asc n) : SeqAt.shaped (.list (xs.map PyData.str)) = true := by
  have a : ∀ {xs : List Str}, (∀ n ∈ xs, asc n) → PyData.canLayAll0 (xs.map PyData.str) = true ∧ PyData.depthAll (xs.map PyData.str) = 0 := by
    intro xs
    induction xs with
    | nil => intro _; simp [PyData.canLayAll0, PyData.depthAll]
    | cons n p ih =>
      intro h
      have i := ih (fun m hm => h m (List.mem_cons_of_mem _ hm))
      simp [PyData.canLayAll0, PyData.canLay0, PyData.depthAll, PyData.depth, asc_lay (h n (List.mem_cons_self ..)), i.1, i.2]
  obtain ⟨b, c⟩ := a h
  have d : PyData.canLay0 (.list (xs.map PyData.str)) = true := by
    simp only [PyData.canLay0]
    exact b
  have e : PyData.depth (.list (xs.map PyData.str)) ≤ 64 := by
    simp only [PyData.depth]
    omega
  unfold SeqAt.shaped
  rw [d, decide_eq_true e]
  rfl
def spPair (K : PySem.W.Frag) : Sp := fun vs H Q _ => ∃ v d, vs = [v] ∧ Dx K H v d ∧ nodes d ≤ 20000 ∧ ∀ H', Ex H H' → Q (.bl (pairB d)) H'
def spBook (K : PySem.W.Frag) : Sp := fun vs H Q _ => ∃ (v u : V) (n : Str) (b : Int) (ms : List Tr) (d : PyData) (B : Nat), vs = [v, u] ∧ TrV H v (.grp n b ms) ∧ (Tr.grp n b ms).deep ≤ 12 ∧ (Tr.grp n b ms).size < 64 ∧ (∀ x ∈ (Tr.grp n b ms).nms, nameOk x) ∧ Dx K H u d ∧ nodes d ≤ 20000 ∧ okD B d ∧
  ∀ ys H', ys.Perm (handsOf (.grp n b ms)) → PyProof.Rows.sortedS ys = true → Ex H H' → Q (.bl (bookB ys d)) H'
section
variable {P : Program} {w : World} {K : PySem.W.Frag} {mg : Str → Option Value} {base : Heap}
theorem ok_pair_fits (T : Tp w K mg) : FnOk P w K mg base CX0 7 T.f_pair_fits T.d_pair_fits ["pair"] (spPair K) := by
  refine T.F_pair_fits.ok sc_pair_fits (fun vs H Q E h => ?_) (fun cdv A outer s H vs Q E hr h => ?_)
  · obtain ⟨v, d, rfl, _⟩ := h
    rfl
  obtain ⟨v, d, rfl, hd, hz, q⟩ := h
  refine ⟨_, (pss_one (ps_ret (pe_and (pe_call (ok_is_tuple_of T) (hr.mono (by decide)) rfl T.m_is_tuple_of T.F_is_tuple_of.kp (b_is_tuple_of T) .nil pass0 (pa_cons (pv 0) (pa_cons pe_int pa_nil (star1 rfl)) (star1 rfl)) (by decide) (star1 rfl) (starAll rfl)) (pe_and (pe_callB (isiK (K := K) rfl) rfl T.z_isinstance (by decide +kernel) (pa_cons (pe_ix (ixTK (K := K) rfl) (pv 0) pe_int (fun _ _ => rfl)) (pa_cons (pe_bltn (v := .ty "str") rfl T.z_str (by decide +kernel) rfl) pa_nil (star1 rfl)) (star1 rfl)) (by decide) (by decide) (star1 rfl) (starAll rfl)) (pe_one (pe_call (ok_is_program T) (hr.mono (by decide)) rfl T.m_is_program T.F_is_program.kp (b_is_program T) .nil pass0 (pa_cons (pe_ix (ixTK (K := K) rfl) (pv 0) pe_int (fun _ _ => rfl)) pa_nil (star1 rfl)) (by decide) (star1 rfl) (starAll rfl))))))), ?_⟩
  refine s_ret (ev_is (ev_andV (a := tupOf d 2) (b := pairB d) (ev_call (ea_cons (ev_var rfl) (ea_cons ev_c ea_nil)) fun H1 e1 Q' q' E' => ⟨v, d, 2, rfl, dx_mono e1 hd, q'⟩) fun ht => ?_) ?_) q
  · cases hd with
    | tup hs ha =>
      rename_i a xs ds
      have hl := dxa_len ha
      simp only [tupOf, decide_eq_true_eq] at ht
      match ds, ha, hz, ht with
      | [x, y], ha, hz, _ =>
        cases ha with
        | cons h1 t =>
          cases t with
          | cons h2 t =>
            cases t
            rename_i v1 v2
            refine ev_is (ev_andV (a := isStrB x) (b := progFits y) (ev_isX (ev_ixT (ev_var rfl) ev_c hs rfl) h1 (kt_str x)) fun hx => ?_) ?_
            · simp only [nodes, nodess] at hz
              exact ev_call (vs := [v2]) (ea_cons (ev_ixT (ev_var rfl) ev_c hs rfl) ea_nil) fun H1 e1 Q' q' E' => ⟨v2, y, rfl, dx_mono e1 h2, rows_small (by omega), q'⟩
            · cases x <;> simp [pairB, isStrB]
      | [], _, _, h => simp at h
      | [_], _, _, h => simp at h
      | _ :: _ :: _ :: _, _, _, h => simp at h; omega
    | _ => cases ht
  · cases hp : pairB d with
    | false => simp
    | true =>
      have : tupOf d 2 = true := by
        unfold pairB at hp
        split at hp
        · rfl
        · cases hp
      rw [this]
      rfl
theorem ok_is_book (T : Tp w K mg) : FnOk P w K mg base CX0 15 T.f_is_book T.d_is_book ["plan", "thing"] (spBook K) := by
  refine T.F_is_book.ok sc_is_book (fun vs H Q E h => ?_) (fun cdv A outer s H vs Q E hr h => ?_)
  · obtain ⟨v, u, n, b, ms, d, B, rfl, _⟩ := h
    rfl
  obtain ⟨v, u, n, b, ms, d, B, rfl, tv, tdp, tsz, tnm, hd, hz, hok, q⟩ := h
  obtain ⟨ys0, hy0⟩ : ∃ ys : List Str, ys.Perm (handsOf (.grp n b ms)) ∧ PyProof.Rows.sortedS ys = true := sort_ex _
  refine ⟨_, (pss_cons (ps_if (pt_not (pt_val (pe_callB (isiK (K := K) rfl) rfl T.z_isinstance (by decide +kernel) (pa_cons (pv 1) (pa_cons (pe_bltn (v := .ty "tuple") rfl T.z_tuple (by decide +kernel) rfl) pa_nil (star1 rfl)) (star1 rfl)) (by decide) (by decide) (star1 rfl) (starAll rfl)))) (pss_one (ps_ret pe_bl)) pss_nil)
  (pss_cons (ps_if (pt_not (pt_val (pe_callB (allK (K := K) rfl rfl) rfl T.z_all (by decide +kernel) (pa_cons (pe_lc (own := [("pair", 4)]) (g := gName 4) (tt := tYes) rfl sc_is_book.nd (pi_tup (pv 1)) (blkOk_by (N := N_is_book) (sc := defScope s_is_book) (by decide +kernel)) (fun _ _ _ _ _ => (pg_name (i := 4) sc_is_book.nd rfl (Or.inl rfl))) (fun _ _ _ _ _ => pts_nil) (fun _ _ _ _ _ => (pe_call (ok_pair_fits T) (hr.mono (by decide)) rfl T.m_pair_fits T.F_pair_fits.kp (b_pair_fits T) .nil pass0 (pa_cons (pv 4) pa_nil (star1 rfl)) (by decide) (star1 rfl) (starAll rfl)))) pa_nil (star1 rfl)) (by decide) (by decide) (star1 rfl) (starAll rfl)))) (pss_one (ps_ret pe_bl)) pss_nil)
  (pss_one (ps_ret (pe_cmpR (eqDK (K := K) rfl (hu_e64 hr)) (pe_lc (own := [("name", 2), ("program", 3)]) (g := gTup K 2 (gCons (gName 2) (gCons (gName 3) gNil))) (tt := tYes) rfl sc_is_book.nd (pi_tup (pv 1)) (blkOk_by (N := N_is_book) (sc := defScope s_is_book) (by decide +kernel)) (fun _ _ _ _ _ => (pg_tup rfl (pgs_cons (pg_name (i := 2) sc_is_book.nd rfl (Or.inl rfl)) (pgs_cons (pg_name (i := 3) sc_is_book.nd rfl (Or.inl rfl)) pgs_nil)))) (fun _ _ _ _ _ => pts_nil) (fun _ _ _ _ _ => (pv 2))) (pe_callB (sortTK (K := K) rfl) rfl T.z_sorted (by decide +kernel) (pa_cons (pe_call (ok_hands_of T) (hr.mono (by decide)) rfl T.m_hands_of T.F_hands_of.kp (b_hands_of T) .nil pass0 (pa_cons (pv 0) pa_nil (star1 rfl)) (by decide) (star1 rfl) (starAll rfl)) pa_nil (star1 rfl)) (by decide) (by decide) (star1 rfl) (starAll rfl)) (nomark _)))))), ?_⟩
  refine q_when (et_not (et_B (ev_isX (ev_var rfl) hd (kt_tuple d)))) (fun hb H1 e1 => ?_) (fun hb H1 e1 => ?_)
  · refine s_ret ev_c fun H2 e2 => ?_
    have e : bookB ys0 d = false := by
      cases d <;> first | rfl | cases hb
    have q2 := q ys0 H2 hy0.1 hy0.2 (e1.trans e2)
    rw [e] at q2
    exact q2
  cases hd with
  | tup hs ha =>
  rename_i a xs ds
  have hl := dxa_len ha
  have hzl := nodes_lenB ds
  simp only [nodes] at hz
  have fits : Ev (tCB (rAll K) (tCons (tLc (iTup K (tVar 1)) (gName 2) tYes (tCall (spPair K) [] E0 (tCons (tVar 2) tNil)) [2]) tNil)) (start N_is_book [v, .ref a]) H1 (.bl (ds.all pairB)) := by
    refine ev_is (ev_allN (bs := (List.range xs.length).map fun i => pairB (ds.getD i .none)) ?_) ?_
    · have c := el_lcT (K := K) (σ := start N_is_book [v, .ref a]) (H := H1) (tl := tVar 1) (tt := tYes) (te := tCall (spPair K) [] E0 (tCons (tVar 2) tNil)) (j := 2) (vs := [2]) (fun _ => true) (fun i => .bl (pairB (ds.getD i .none))) (ev_var rfl) (ex_t e1 hs) (by omega) (fun x => rfl) (fun i x H2 e2 hi => et_yes) (fun i x H2 e2 hi _ => ?_)
      · rw [given_all] at c
        rw [List.map_map]
        exact c
      · obtain ⟨d, h1, h2⟩ := dxa_get ha hi
        have e : ds.getD i .none = d := by rw [List.getD_eq_getElem?_getD, h1]; rfl
        rw [e]
        have := nodes_memB (List.mem_of_getElem? h1)
        exact ev_call (ea_cons (ev_var rfl) ea_nil) fun H3 e3 Q' q' E' => ⟨x, d, rfl, dx_mono ((e1.trans e2).trans e3) h2, by omega, q'⟩
    · congr 1
      rw [hl, List.all_map]
      rw [Bool.eq_iff_iff, List.all_eq_true, List.all_eq_true]
      constructor
      · intro h x hx
        obtain ⟨i, hi, e⟩ := List.getElem_of_mem hx
        have := h i (List.mem_range.mpr hi)
        have e2 : ds.getD i .none = x := by rw [List.getD_eq_getElem?_getD, List.getElem?_eq_getElem hi, e]; rfl
        simp only [Function.comp, id] at this; rw [e2] at this; exact this
      · intro h i hi
        have hi2 := List.mem_range.mp hi
        have e2 : ds.getD i .none = ds[i] := by rw [List.getD_eq_getElem?_getD, List.getElem?_eq_getElem hi2]; rfl
        simp only [Function.comp, id, e2]
        exact h _ (List.getElem_mem hi2)
  refine q_when (et_not (et_B fits)) (fun hb2 H2 e2 => ?_) (fun hb2 H2 e2 => ?_)
  · refine s_ret ev_c fun H3 e3 => ?_
    have e : bookB ys0 (.tuple ds) = false := by
      simp only [bookB]
      rw [Bool.not_eq_true'] at hb2
      rw [hb2]
      rfl
    have q2 := q ys0 H3 hy0.1 hy0.2 ((e1.trans e2).trans e3)
    rw [e] at q2
    exact q2
  have all : ds.all pairB = true := by
    cases h : ds.all pairB with
    | true => rfl
    | false => rw [h] at hb2; cases hb2
  have e12 := e1.trans e2
  have pair : ∀ {i : Nat} {x : V}, xs[i]? = some x → ∃ (c : Addr) (z : Str) (y : V) (p : PyData), x = .ref c ∧ ds[i]? = some (.tuple [.str z, p]) ∧ SqT K H c [.str z, y] := by
    intro i x hx
    obtain ⟨d, h1, h2⟩ := dxa_get ha hx
    have hp := List.all_eq_true.mp all d (List.mem_of_getElem? h1)
    unfold pairB at hp
    split at hp
    · rename_i z p
      cases h2 with
      | tup k1 k2 =>
        cases k2 with
        | cons k3 t =>
          cases k3
          cases t with
          | cons k4 t =>
            cases t
            exact ⟨_, z, _, p, rfl, h1, k1⟩
    · cases hp
  simp only [okD] at hok
  have nasc : ∀ x ∈ ds.map pairName, asc x := by
    intro x hx
    obtain ⟨d, hd, rfl⟩ := List.mem_map.mp hx
    have hp := List.all_eq_true.mp all d hd
    have ok := oks_memB hok d hd
    unfold pairB at hp
    split at hp
    · simp only [okD, okDs] at ok
      exact ok.1
    · cases hp
  refine s_retP ?_
  refine ⟨_, rfl, a, rfl, ⟨xs, ex_t e12 hs⟩, fun D hD => ?_⟩
  refine lc_tup (K := K) (a := a) (xs := xs) (fun i H' => Ex H2 H' ∧ H' D = some (.lst (((ds.take i).map pairName).map V.str))) ⟨Ex.new hD, by rw [upd_same]; simp⟩ (fun i H' _ hP => ex_t (e12.trans hP.1) hs) ?_ ?_
  · intro i x H3 hx hP
    obtain ⟨e3, hacc⟩ := hP
    obtain ⟨c, z, y, p, rfl, hdi, hc⟩ := pair hx
    refine ⟨c, _, rfl, ex_t (e12.trans e3) hc, rfl, _, _, rfl, _, _, rfl, rfl, rfl, tYesQ ?_⟩
    have hi := (List.getElem?_eq_some_iff.mp hx).1
    refine ⟨_, rfl, _, hacc, sz_lt ?_, Ex.mut e3 hD, ?_⟩
    · rw [List.length_map, List.length_map, List.length_take]
      omega
    · rw [upd_same, List.take_succ, hdi]
      simp [pairName]
  · intro H3 hP
    obtain ⟨e3, hacc⟩ := hP
    rw [hl, List.take_length] at hacc
    have e13 := e12.trans e3
    refine ⟨_, rfl, v, n, b, ms, rfl, trv_tk (TK.ex e13) _ _ tv, tdp, by omega, fun hp H4 e4 hhp => ?_⟩
    have hl2 : (handsOf (.grp n b ms)).length < 64 := by
      have := names_len (.grp n b ms)
      rw [List.length_append] at this
      omega
    refine ⟨hp, handsOf (.grp n b ms), rfl, st_of hhp, hl2, fun ys sp hperm hsrt hsp => ?_⟩
    have e5 := e4.trans (Ex.new (o := .lst (ys.map V.str)) hsp)
    have yasc : ∀ x ∈ ys, asc x := fun x hx => name_asc (tnm x (hands_in _ x (hperm.mem_iff.mp hx)))
    refine ⟨.list ((ds.map pairName).map PyData.str), .list (ys.map PyData.str), .lst (sq_of (e5 _ _ hacc)) (dpa_strs _), .lst (sq_of upd_same) (dpa_strs _), shapedL nasc, shapedL yasc, ?_⟩
    have e6 : PyData.eqv (.list ((ds.map pairName).map PyData.str)) (.list (ys.map PyData.str)) = bookB ys (.tuple ds) := by
      simp only [PyData.eqv, bookB, eqv_strs, all, Bool.true_and]
    rw [e6]
    exact q ys _ hperm hsrt (e13.trans e5)
  | _ => cases hb
end
/-! ### the program's groups and their bounds -/
def boundsV (t : Tr) : List V := ((t.rows []).filter fun r => r.2.1.isSome).map fun r => obV r.2.1
theorem bounds_len (t : Tr) : (boundsV t).length = (groupsOf t).length := by
  rw [groups_rows, boundsV, List.length_map, List.length_map]
def spBnds (K : PySem.W.Frag) : Sp := fun vs H Q _ => ∃ (v : V) (n : Str) (b : Int) (ms : List Tr), vs = [v] ∧ TrV H v (.grp n b ms) ∧ (Tr.grp n b ms).deep ≤ 12 ∧ (Tr.grp n b ms).size ≤ 1000 ∧
  ∀ a H', Ex H H' → H' a = some (.tup (boundsV (.grp n b ms))) → Q (.ref a) H'
section
variable {P : Program} {w : World} {K : PySem.W.Frag} {mg : Str → Option Value} {base : Heap}
theorem ok_groups_of (T : Tp w K mg) : FnOk P w K mg base CX0 14 T.f_groups_of T.d_groups_of ["plan"] (spNames K groupsOf) := by
  refine T.F_groups_of.ok sc_groups_of (fun vs H Q E h => ?_) (fun cdv A outer s H vs Q E hr h => ?_)
  · obtain ⟨v, n, b, ms, rfl, _⟩ := h
    rfl
  obtain ⟨v, n, b, ms, rfl, hv, hdp, hsz, q⟩ := h
  refine ⟨_, (pss_one (ps_ret (pe_callTy call_tuple_of rfl T.z_tuple (by decide +kernel) (pa_cons (pe_lc (own := [("name", 1), ("bound", 2), ("path", 3)]) (g := gTup K 3 (gCons (gName 1) (gCons (gName 2) (gCons (gName 3) gNil)))) rfl sc_groups_of.nd (pi_list (pe_call (ok_all_in T) (hr.mono (by decide)) rfl T.m_all_in T.F_all_in.kp (b_all_in T) .nil pass0 (pa_cons (pv 0) pa_nil (star1 rfl)) (by decide) (star1 rfl) (starAll rfl))) (blkOk_by (N := N_groups_of) (sc := defScope s_groups_of) (by decide +kernel)) (fun _ _ _ _ _ => (pg_tup rfl (pgs_cons (pg_name (i := 1) sc_groups_of.nd rfl (Or.inl rfl)) (pgs_cons (pg_name (i := 2) sc_groups_of.nd rfl (Or.inl rfl)) (pgs_cons (pg_name (i := 3) sc_groups_of.nd rfl (Or.inl rfl)) pgs_nil))))) (fun _ _ _ _ _ => (pts_one (pt_cmp (pc_notN (pv 2))))) (fun _ _ _ _ _ => (pv 1))) pa_nil (star1 rfl)) (by decide) (by decide) (star1 rfl) (starAll rfl)))), ?_⟩
  refine s_retP ?_
  refine ⟨_, rfl, v, n, b, ms, rfl, hv, hdp, hsz, fun r xs H1 e1 hr1 h1 rows => ⟨r, rfl, ⟨xs, sq_of h1⟩, fun D hD => ?_⟩⟩
  generalize hrs : (Tr.grp n b ms).rows [] = rs at rows
  have hlen : rs.length ≤ 1000 := by rw [← hrs, rows_len]; exact hsz
  have hxl := rows.len
  refine lc_list (K := K) (a := r) (xs := xs) (fun i H' => Ex H1 H' ∧ H' D = some (.lst (((rs.take i).filter fun r => r.2.1.isSome).map fun r => V.str r.1))) ⟨Ex.new hD, upd_same⟩ (fun i H' _ hP => sq_of (hP.1 _ _ h1)) ?_ ?_
  · intro i x H' hx hP
    obtain ⟨e2, hacc⟩ := hP
    obtain ⟨rw', hrw, a, pa, rfl, ha, hpa⟩ := rows.get hx
    obtain ⟨nm, g, p⟩ := rw'
    refine ⟨a, _, rfl, st_of (e2 _ _ ha), rfl, _, _, rfl, _, _, rfl, _, _, rfl, rfl, rfl, _, rfl, _, rfl, ?_⟩
    have hl2 : (((rs.take i).filter fun r => r.2.1.isSome).map fun r => V.str r.1).length ≤ 1000 := by
      rw [List.length_map]
      exact Nat.le_trans (List.length_filter_le _ _) (by rw [List.length_take]; omega)
    cases g with
    | none =>
      refine iteF ?_
      refine ⟨e2, ?_⟩
      rw [hacc, filter_take hrw]
      simp
    | some bd =>
      refine iteT ?_
      refine ⟨_, rfl, _, hacc, sz_lt (by omega), Ex.mut e2 hD, ?_⟩
      rw [upd_same, filter_take hrw]
      simp
  · intro H' hP
    obtain ⟨e2, hacc⟩ := hP
    rw [hxl, List.take_length] at hacc
    refine ⟨D, _, rfl, Or.inl ⟨sq_of hacc, fun t ht => ?_⟩⟩
    refine q t _ ((e1.trans e2).trans (Ex.new ht)) ?_
    rw [upd_same]
    rw [groups_rows, hrs, List.map_map]
    rfl
theorem ok_bounds_of (T : Tp w K mg) : FnOk P w K mg base CX0 14 T.f_bounds_of T.d_bounds_of ["plan"] (spBnds K) := by
  refine T.F_bounds_of.ok sc_bounds_of (fun vs H Q E h => ?_) (fun cdv A outer s H vs Q E hr h => ?_)
  · obtain ⟨v, n, b, ms, rfl, _⟩ := h
    rfl
  obtain ⟨v, n, b, ms, rfl, hv, hdp, hsz, q⟩ := h
  refine ⟨_, (pss_one (ps_ret (pe_callTy call_tuple_of rfl T.z_tuple (by decide +kernel) (pa_cons (pe_lc (own := [("name", 1), ("bound", 2), ("path", 3)]) (g := gTup K 3 (gCons (gName 1) (gCons (gName 2) (gCons (gName 3) gNil)))) rfl sc_bounds_of.nd (pi_list (pe_call (ok_all_in T) (hr.mono (by decide)) rfl T.m_all_in T.F_all_in.kp (b_all_in T) .nil pass0 (pa_cons (pv 0) pa_nil (star1 rfl)) (by decide) (star1 rfl) (starAll rfl))) (blkOk_by (N := N_bounds_of) (sc := defScope s_bounds_of) (by decide +kernel)) (fun _ _ _ _ _ => (pg_tup rfl (pgs_cons (pg_name (i := 1) sc_bounds_of.nd rfl (Or.inl rfl)) (pgs_cons (pg_name (i := 2) sc_bounds_of.nd rfl (Or.inl rfl)) (pgs_cons (pg_name (i := 3) sc_bounds_of.nd rfl (Or.inl rfl)) pgs_nil))))) (fun _ _ _ _ _ => (pts_one (pt_cmp (pc_notN (pv 2))))) (fun _ _ _ _ _ => (pv 2))) pa_nil (star1 rfl)) (by decide) (by decide) (star1 rfl) (starAll rfl)))), ?_⟩
  refine s_retP ?_
  refine ⟨_, rfl, v, n, b, ms, rfl, hv, hdp, hsz, fun r xs H1 e1 hr1 h1 rows => ⟨r, rfl, ⟨xs, sq_of h1⟩, fun D hD => ?_⟩⟩
  generalize hrs : (Tr.grp n b ms).rows [] = rs at rows
  have hlen : rs.length ≤ 1000 := by rw [← hrs, rows_len]; exact hsz
  have hxl := rows.len
  refine lc_list (K := K) (a := r) (xs := xs) (fun i H' => Ex H1 H' ∧ H' D = some (.lst (((rs.take i).filter fun r => r.2.1.isSome).map fun r => obV r.2.1))) ⟨Ex.new hD, upd_same⟩ (fun i H' _ hP => sq_of (hP.1 _ _ h1)) ?_ ?_
  · intro i x H' hx hP
    obtain ⟨e2, hacc⟩ := hP
    obtain ⟨rw', hrw, a, pa, rfl, ha, hpa⟩ := rows.get hx
    obtain ⟨nm, g, p⟩ := rw'
    refine ⟨a, _, rfl, st_of (e2 _ _ ha), rfl, _, _, rfl, _, _, rfl, _, _, rfl, rfl, rfl, _, rfl, _, rfl, ?_⟩
    have hl2 : (((rs.take i).filter fun r => r.2.1.isSome).map fun r => obV r.2.1).length ≤ 1000 := by
      rw [List.length_map]
      exact Nat.le_trans (List.length_filter_le _ _) (by rw [List.length_take]; omega)
    cases g with
    | none =>
      refine iteF ?_
      refine ⟨e2, ?_⟩
      rw [hacc, filter_take hrw]
      simp
    | some bd =>
      refine iteT ?_
      refine ⟨_, rfl, _, hacc, sz_lt (by omega), Ex.mut e2 hD, ?_⟩
      rw [upd_same, filter_take hrw]
      simp
  · intro H' hP
    obtain ⟨e2, hacc⟩ := hP
    rw [hxl, List.take_length] at hacc
    refine ⟨D, _, rfl, Or.inl ⟨sq_of hacc, fun t ht => ?_⟩⟩
    refine q t _ ((e1.trans e2).trans (Ex.new ht)) ?_
    rw [upd_same, boundsV, hrs]
end
/-! ### the box that draws, one of a list -/
theorem op_powB {X : Cx} : OpR X (binaryOp .Pow) (rI (fun i j => 0 ≤ j ∧ j ≤ 1000 ∧ i.natAbs < 2 ^ 128) fun i j => .int (i ^ j.toNat)) := opI fun i j _ _ _ _ _ hc q => PyProof.Rows.pow_int hc.1 (by
  have hb : Builtin.Int.intBits i ≤ 128 := by
    unfold Builtin.Int.intBits
    split
    · exact Nat.zero_le _
    · rename_i hz
      have hn : i.natAbs < 2 ^ 128 := hc.2.2
      have hp : i.natAbs ≠ 0 := by
        intro z
        apply hz
        simp [Int.natAbs_eq_zero.mp z]
      have := (Nat.log2_lt hp).mpr hn
      omega
  have h1 : (Builtin.Int.intBits i : Int) * j ≤ 128 * j := Int.mul_le_mul_of_nonneg_right (by omega) hc.1
  have := hc.2.1
  omega) q
def spBox (K : PySem.W.Frag) : Sp := fun vs H Q _ => ∃ (a : Addr) (ns : List Int) (k : Nat), vs = [.ref a, .int k] ∧ SqL K H a (ns.map V.int) ∧ ns.length ≤ 63 ∧ k ≤ 63 ∧ ∀ h H', Ex H H' → H h = none → Bx H' h 0 → Q (.ref h) H'
def spTake : Sp := fun vs H Q _ => ∃ (h : Addr) (m : Int) (C : Nat), vs = [.ref h, .int m] ∧ Bx H h C ∧ C ≤ 1000000 ∧ 1 ≤ m ∧ m ≤ 20000 ∧ ∀ (r : Int) H', 0 ≤ r → r < m → Bx H' h (C + 1) → Kp h h H H' → Q (.int r) H'
def spPickB : Sp := fun vs H Q _ => ∃ (h a : Addr) (xs : List V) (C : Nat), vs = [.ref h, .ref a] ∧ Bx H h C ∧ C ≤ 1000000 ∧ H a = some (.lst xs) ∧ a ≠ h ∧ 1 ≤ xs.length ∧ xs.length ≤ 20000 ∧ ∀ v H', v ∈ xs → Bx H' h (C + 1) → Kp h h H H' → Q v H'
theorem take_at {h : Addr} {m : Int} {C i : Nat} {σ : L2.St} {H : Hp} {Q : VK} (hσ : σ[i]? = some (some (.ref h))) (A : Bx H h C) (hC : C ≤ 1000000) (m1 : 1 ≤ m) (m2 : m ≤ 20000) (q : ∀ (r : Int) H', 0 ≤ r → r < m → Bx H' h (C + 1) → Kp h h H H' → Q (.int r) H') : tCall spTake [] E0 (tCons (tVar i) (tCons (tC (.int m)) tNil)) σ H Q := ⟨_, hσ, h, m, C, rfl, A, hC, m1, m2, q⟩
theorem s_ifP {t : TT} {tu tw : TS} {D : Ends} {σ : L2.St} {H : Hp} (h : t σ H fun c H1 => if c = true then tu D σ H1 else tw D σ H1) : tIfS t tu tw D σ H := h
theorem iteT' {c : Bool} {A B : Prop} (h : c = true) (a : A) : if c = true then A else B := by rw [if_pos h]; exact a
theorem iteF' {c : Bool} {A B : Prop} (h : c = false) (b : B) : if c = true then A else B := by rw [if_neg (by rw [h]; exact Bool.false_ne_true)]; exact b
section
variable {P : Program} {w : World} {K : PySem.W.Frag} {mg : Str → Option Value} {base : Heap}
theorem ok__law_box (T : Tp w K mg) : FnOk P w K mg base CX0 1 T.f__law_box T.d__law_box ["_law_script", "_law_k"] (spBox K) := by
  refine T.F__law_box.ok sc__law_box (fun vs H Q E h => ?_) (fun cdv A outer s H vs Q E hr h => ?_)
  · obtain ⟨a, ns, k, rfl, _⟩ := h
    rfl
  obtain ⟨a, ns, k, rfl, hS, h63, hk, q⟩ := h
  refine ⟨_, (pss_cons (ps_set (i := 2) sc__law_box.nd rfl (Or.inl rfl) pe_int)
  (pss_cons (ps_if (pt_cmpR op_lt (pv 1) (pe_callB (lenK (K := K) rfl) rfl T.z_len PySem.boot_len (pa_cons (pv 0) pa_nil (star1 rfl)) (by decide) (by decide) (star1 rfl) (starAll rfl)) (nomark _)) (pss_one (ps_set (i := 2) sc__law_box.nd rfl (Or.inl rfl) (pe_ix ix_list (pv 0) (pv 1) (fun _ _ => rfl)))) pss_nil)
  (pss_one (ps_ret (pe_lst (pa_cons (pe_op op_mul (pe_callB call_abs rfl T.z_abs (by decide +kernel) (pa_cons (pv 2) pa_nil (star1 rfl)) (by decide) (by decide) (star1 rfl) (starAll rfl)) (pe_callTy call_int1 rfl T.z_int (by decide +kernel) (pa_cons (pe_cmpR op_ge (pe_callB call_abs rfl T.z_abs (by decide +kernel) (pa_cons (pv 2) pa_nil (star1 rfl)) (by decide) (by decide) (star1 rfl) (starAll rfl)) (pe_op op_pow pe_int pe_int) (nomark _)) pa_nil (star1 rfl)) (by decide) (by decide) (star1 rfl) (starAll rfl))) (pa_cons (pe_op op_mul (pe_op op_add (pe_op op_add (pe_op op_mod (pv 2) pe_int) (pe_op op_mul pe_int (pv 1))) pe_int) pe_int) (pa_cons pe_int pa_nil (star1 rfl)) (star1 rfl)) (star1 rfl))))))), ?_⟩
  refine q_asg (v := .int 0) ev_c fun H1 e1 => ?_
  refine q_ifAsg (v := .int (ns.getD k 0)) (et_test (ev_I0 (ev_var rfl) (ev_len (ev_var rfl) (ex_l e1 hS)))) (fun hb => ?_) (fun hb => ?_) fun H2 e2 => ?_
  · have hb2 : k < ns.length := by simpa using hb
    refine ev_op (ev_var rfl) (ev_var rfl) (rv_ixL (v := .int (ns.getD k 0)) (ex_l e1 hS) ?_)
    unfold atI ixN
    rw [if_pos (by omega), if_pos (by rw [List.length_map]; omega)]
    simp [List.getD_eq_getElem?_getD, hb2]
  · have hb2 : ¬ k < ns.length := by simpa using hb
    have e : ns.getD k 0 = 0 := by
      rw [List.getD_eq_getElem?_getD, List.getElem?_eq_none (by omega)]
      rfl
    rw [e]
    rfl
  generalize ns.getD k 0 = c
  have ab : ∀ {H' : Hp} {σ : L2.St}, σ[2]? = some (some (.int c)) → Ev (tCB (fun xs H Q => ∃ i, xs = [.int i] ∧ Q (.int (if i < 0 then -i else i)) H) (tCons (tVar 2) tNil)) σ H' (.int (if c < 0 then -c else c)) := fun h => ev_abs (ev_var h)
  have abs0 : 0 ≤ (if c < 0 then -c else c) := by split <;> omega
  generalize (if c < 0 then -c else c) = b at ab abs0
  have m0 : 0 ≤ c % 2305843009213693951 := Int.emod_nonneg _ (by decide)
  have m1 : c % 2305843009213693951 < 2305843009213693951 := Int.emod_lt_of_pos _ (by decide)
  have pw : ∀ {H' : Hp} {σ : L2.St}, Ev (tOp (rI CPow fun i j => .int (i ^ j.toNat)) (tC (.int 10)) (tC (.int 18))) σ H' (.int (10 ^ 18)) := fun H3 e Q q => ⟨10, 18, rfl, rfl, ⟨by decide, by decide, by decide⟩, q H3 (Ex.refl H3)⟩
  refine s_retL (xs := [.int (b * (if decide (b ≥ 10 ^ 18) then 1 else 0)), .int ((c % 2305843009213693951 + 104729 * k + 7) * 48271), .int 0]) ?_ fun p H3 hp e3 h3 => ?_
  · refine fun H4 e4 Q' q' => (ea_cons (ev_I (C := CMul) (g := fun i j => .int (i * j)) ?_ (ab rfl) (ev_intB (b := decide (b ≥ 10 ^ 18)) (ev_is (ev_I0 (ab rfl) pw) rfl))) (ea_cons (ev_I (C := CMul) (g := fun i j => .int (i * j)) ?_ (ev_I0 (ev_I0 (ev_I (by decide) (ev_var rfl) ev_c) (ev_I (C := CMul) (g := fun i j => .int (i * j)) ?_ ev_c (ev_var rfl))) ev_c) ev_c) (ea_cons ev_c ea_nil))) H4 (Ex.refl H4) _ fun H5 e5 => ⟨(by show 3 ≤ sizeLine; decide), fun p hp => q' p _ (fresh_back e5 hp) (e5.trans (Ex.new hp)) upd_same⟩
    · refine Or.inr ?_
      split <;> decide
    · exact Or.inr (by decide)
    · exact Or.inl (by decide)
  · refine q p H3 ((e1.trans e2).trans e3) (fresh_back (e1.trans e2) hp) ⟨_, _, _, h3, ?_, ?_, ?_, by decide, by decide⟩
    · exact Int.mul_nonneg abs0 (by split <;> decide)
    · omega
    · omega
theorem ok__law_take (T : Tp w K mg) : FnOk P w K mg base CX0 1 T.f__law_take T.d__law_take ["_law_box_here", "_law_many"] spTake := by
  refine T.F__law_take.ok sc__law_take (fun vs H Q E h => ?_) (fun cdv A outer s H vs Q E hr h => ?_)
  · obtain ⟨h, m, C, rfl, _⟩ := h
    rfl
  obtain ⟨h, m, C, rfl, ⟨n, m', c, A0⟩, hC, m1, m2, q⟩ := h
  refine ⟨_, (pss_cons (ps_if (pt_cmpR op_gt (pe_ix ix_list (pv 0) pe_int (fun _ _ => rfl)) pe_int (nomark _)) (pss_cons (ps_set (i := 5) sc__law_take.nd rfl (Or.inl rfl) (pe_op op_mod (pe_ix ix_list (pv 0) pe_int (fun _ _ => rfl)) (pv 1)))
  (pss_cons (ps_asg (pe_op op_fdiv (pe_ix ix_list (pv 0) pe_int (fun _ _ => rfl)) (pv 1)) (pg_sub (pv 0) pe_int set_list))
  (pss_one (ps_ret (pv 5))))) pss_nil)
  (pss_cons (ps_asg (pe_op op_add (pe_ix ix_list (pv 0) pe_int (fun _ _ => rfl)) pe_int) (pg_sub (pv 0) pe_int set_list))
  (pss_cons (ps_set (i := 2) sc__law_take.nd rfl (Or.inl rfl) (pe_lst (pa_cons pe_int (pa_cons pe_int (pa_cons pe_int (pa_cons pe_int (pa_cons pe_int (pa_cons pe_int (pa_cons pe_int (pa_cons pe_int pa_nil (star1 rfl)) (star1 rfl)) (star1 rfl)) (star1 rfl)) (star1 rfl)) (star1 rfl)) (star1 rfl)) (star1 rfl))))
  (pss_cons (ps_set (i := 3) sc__law_take.nd rfl (Or.inl rfl) (pe_ix ix_list (pv 2) (pe_op op_mod (pe_ix ix_list (pv 0) pe_int (fun _ _ => rfl)) pe_int) (fun _ _ => rfl)))
  (pss_cons (ps_set (i := 4) sc__law_take.nd rfl (Or.inl rfl) (pe_op op_mod (pe_op op_powB (pe_op op_add (pe_ix ix_list (pv 0) pe_int (fun _ _ => rfl)) (pe_op op_mul pe_int (pe_ix ix_list (pv 0) pe_int (fun _ _ => rfl)))) pe_int) (pv 3)))
  (pss_one (ps_ret (pe_op op_mod (pe_op op_fdiv (pe_op op_mod (pe_op op_mul (pv 4) (pe_op op_add (pe_op op_mod (pv 4) pe_int) (pe_ix ix_list (pv 0) pe_int (fun _ _ => rfl)))) (pv 3)) pe_int) (pv 1))))))))), ?_⟩
  have at0 : ∀ (σ' : L2.St) {H' : Hp} {n m c : Int} {C : Nat}, σ'[0]? = some (some (.ref h)) → BxAt H' h n m c C → Ev (tOp (rIxL K) (tVar 0) (tC (.int 0))) σ' H' (.int n) := fun σ' H' n m c C e A => ev_op (ev_var e) ev_c (rv_ixL (sq_of A.hh) rfl)
  have at1 : ∀ (σ' : L2.St) {H' : Hp} {n m c : Int} {C : Nat}, σ'[0]? = some (some (.ref h)) → BxAt H' h n m c C → Ev (tOp (rIxL K) (tVar 0) (tC (.int 1))) σ' H' (.int m) := fun σ' H' n m c C e A => ev_op (ev_var e) ev_c (rv_ixL (sq_of A.hh) rfl)
  have at2 : ∀ (σ' : L2.St) {H' : Hp} {n m c : Int} {C : Nat}, σ'[0]? = some (some (.ref h)) → BxAt H' h n m c C → Ev (tOp (rIxL K) (tVar 0) (tC (.int 2))) σ' H' (.int c) := fun σ' H' n m c C e A => ev_op (ev_var e) ev_c (rv_ixL (sq_of A.hh) rfl)
  refine q_when (et_test (ev_I0 (at0 _ rfl A0) ev_c)) (fun hb H1 e1 => ?_) (fun hb H1 e1 => ?_)
  · have A1 := A0.ex e1
    refine q_asg (v := .int (n % m)) (ev_I (by show (0 : Int) < m; omega) (at0 _ rfl A1) (ev_var rfl)) fun H2 e2 => ?_
    have A2 := A1.ex e2
    refine q_setL (j := 0) (v := .int (n / m)) A2.hh (ev_I (C := CDiv) ⟨by omega, by omega⟩ (at0 _ rfl A2) (ev_var rfl)) (ev_var rfl) ev_c (by simp) fun H3 e3 => ?_
    have A3 := A2.ex e3
    refine s_ret (v := .int (n % m)) (ev_var rfl) fun H4 e4 => ?_
    have B : BxAt (upd H3 h (.lst ([V.int n, .int m', .int c].set 0 (.int (n / m))))) h (n / m) m' c (C + 1) := ⟨upd_same, Int.ediv_nonneg A3.n0 (by omega), A3.m0, A3.m1, A3.c0, by have := A3.c1; omega⟩
    exact q _ H4 (Int.emod_nonneg _ (by omega)) (Int.emod_lt_of_pos _ (by omega)) ⟨_, _, _, B.ex e4⟩ ((Kp.put (Kp.ex ((e1.trans e2).trans e3)) (Or.inl rfl)).trans (Kp.ex e4))
  · have A1 := A0.ex e1
    refine q_setL (j := 2) (v := .int (c + 1)) A1.hh (ev_I0 (at2 _ rfl A1) ev_c) (ev_var rfl) ev_c (by simp) fun H2 e2 => ?_
    have A2 := A1.ex e2
    have k2 : Kp h h H (upd H2 h (.lst ([V.int n, .int m', .int c].set 2 (.int (c + 1))))) := Kp.put (Kp.ex (e1.trans e2)) (Or.inl rfl)
    have B : BxAt (upd H2 h (.lst ([V.int n, .int m', .int c].set 2 (.int (c + 1))))) h n m' (c + 1) (C + 1) := ⟨upd_same, A2.n0, A2.m0, A2.m1, by have := A2.c0; omega, by have := A2.c1; omega⟩
    generalize upd H2 h (.lst ([V.int n, .int m', .int c].set 2 (.int (c + 1)))) = H3 at B k2
    refine q_asgL (xs := [.int 2147483647, .int 2147483629, .int 2147483587, .int 2147483579, .int 2147483563, .int 2147483549, .int 2147483543, .int 2147483497]) (fun H4 e4 Q' q' => (ea_cons ev_c (ea_cons ev_c (ea_cons ev_c (ea_cons ev_c (ea_cons ev_c (ea_cons ev_c (ea_cons ev_c (ea_cons ev_c ea_nil)))))))) H4 (Ex.refl H4) _ fun H5 e5 => ⟨(by show 8 ≤ sizeLine; decide), fun p hp => q' p _ (fresh_back e5 hp) (e5.trans (Ex.new hp)) upd_same⟩) fun p H4 hp e4 h4 => ?_
    have B4 := B.ex e4
    obtain ⟨pr, hpr, p0, p1⟩ : ∃ pr : Int, atI [V.int 2147483647, .int 2147483629, .int 2147483587, .int 2147483579, .int 2147483563, .int 2147483549, .int 2147483543, .int 2147483497] ((c + 1) % 8) = some (.int pr) ∧ 0 < pr ∧ pr < 2 ^ 31 := by
      have r0 : 0 ≤ (c + 1) % 8 := Int.emod_nonneg _ (by decide)
      have r1 : (c + 1) % 8 < 8 := Int.emod_lt_of_pos _ (by decide)
      generalize (c + 1) % 8 = r at r0 r1
      have : r = 0 ∨ r = 1 ∨ r = 2 ∨ r = 3 ∨ r = 4 ∨ r = 5 ∨ r = 6 ∨ r = 7 := by omega
      rcases this with rfl | rfl | rfl | rfl | rfl | rfl | rfl | rfl <;> exact ⟨_, rfl, by decide, by decide⟩
    refine q_asg (v := .int pr) (ev_op (ev_var rfl) (ev_I (by decide) (at2 _ rfl B4) ev_c) (rv_ixL (sq_of h4) hpr)) fun H5 e5 => ?_
    have B5 := B4.ex e5
    have c1 := B5.c1
    have c0 := B5.c0
    have mm0 := B5.m0
    have mm1 := B5.m1
    have pB : (0 : Int) ≤ 5 ∧ (5 : Int) ≤ 1000 ∧ (m' + 7919 * (c + 1)).natAbs < 2 ^ 128 := ⟨by decide, by decide, by omega⟩
    refine q_asg (v := .int ((m' + 7919 * (c + 1)) ^ (5 : Int).toNat % pr)) (ev_I p0 (ev_I (C := fun i j => 0 ≤ j ∧ j ≤ 1000 ∧ i.natAbs < 2 ^ 128) (g := fun i j => .int (i ^ j.toNat)) pB (ev_I0 (at1 _ rfl B5) (ev_I (C := CMul) (g := fun i j => .int (i * j)) (Or.inl (by decide)) ev_c (at2 _ rfl B5))) ev_c) (ev_var rfl)) fun H6 e6 => ?_
    have B6 := B5.ex e6
    have d0 : 0 ≤ (m' + 7919 * (c + 1)) ^ (5 : Int).toNat % pr := Int.emod_nonneg _ (by omega)
    have d1 : (m' + 7919 * (c + 1)) ^ (5 : Int).toNat % pr < pr := Int.emod_lt_of_pos _ p0
    generalize (m' + 7919 * (c + 1)) ^ (5 : Int).toNat % pr = dr at d0 d1
    refine s_ret (ev_I (by show (0 : Int) < m; omega) (ev_I (C := CDiv) (by constructor <;> decide) (ev_I p0 (ev_I (C := CMul) (g := fun i j => .int (i * j)) (Or.inl ⟨by omega, by omega⟩) (ev_var rfl) (ev_I0 (ev_I (by decide) (ev_var rfl) ev_c) (at2 _ rfl B6))) (ev_var rfl)) ev_c) (ev_var rfl)) fun H7 e7 => ?_
    exact q _ H7 (Int.emod_nonneg _ (by omega)) (Int.emod_lt_of_pos _ (by omega)) ⟨_, _, _, B6.ex e7⟩ (k2.trans (Kp.ex (((e4.trans e5).trans e6).trans e7)))
theorem ok__law_pick (T : Tp w K mg) : FnOk P w K mg base CX0 2 T.f__law_pick T.d__law_pick ["_law_box_here", "_law_some"] spPickB := by
  refine T.F__law_pick.ok sc__law_pick (fun vs H Q E h => ?_) (fun cdv A outer s H vs Q E hr h => ?_)
  · obtain ⟨h, a, xs, C, rfl, _⟩ := h
    rfl
  refine ⟨_, (pss_one (ps_ret (pe_ix (ixLK (K := K) rfl) (pv 1) (pe_call (ok__law_take T) (hr.mono (by decide)) rfl T.m__law_take T.F__law_take.kp (b__law_take T) .nil pass0 (pa_cons (pv 0) (pa_cons (pe_callB (lenK (K := K) rfl) rfl T.z_len PySem.boot_len (pa_cons (pv 1) pa_nil (star1 rfl)) (by decide) (by decide) (star1 rfl) (starAll rfl)) pa_nil (star1 rfl)) (star1 rfl)) (by decide) (star1 rfl) (starAll rfl)) (fun _ _ => rfl)))), ?_⟩
  obtain ⟨h, a, xs, C, rfl, A0, hC, ha, n1, l1, l2, q⟩ := h
  refine ⟨_, rfl, _, rfl, _, rfl, a, xs, rfl, Or.inl (sq_of ha), h, (xs.length : Int), C, rfl, A0, hC, by omega, by omega, fun r H' r0 r1 A1 k1 => ?_⟩
  have hi : r.toNat < xs.length := by omega
  refine ⟨a, xs, r, xs[r.toNat], rfl, rfl, sq_of (k1 a _ n1 n1 ha), ?_, q _ H' (List.getElem_mem hi) A1 k1⟩
  unfold atI ixN
  rw [if_pos r0, if_pos r1]
  simp [hi]
end
/-! ### a house that is read, its hands locked or not -/
theorem rd_ex {H H' : Hp} {a : Addr} {u : HO} (r : Rd H a u) (e : Ex H H') : Rd H' a u := by
  rcases r with r | ⟨o, r⟩
  · exact .inl (e _ _ r)
  · exact .inr ⟨o, e _ _ r⟩
def DmR {α : Type} (R : V → α → Prop) (H : Hp) (d : Addr) (xs : List (Str × α)) : Prop := ∃ kvs, Rd H d (.dK kvs) ∧ Paired (Kr R) kvs xs ∧ xs.length ≤ 1000
theorem dm_toR {α : Type} {R : V → α → Prop} {H : Hp} {d : Addr} {xs : List (Str × α)} (h : Dm R H d xs) : DmR R H d xs := by
  obtain ⟨kvs, a, b, c⟩ := h
  exact ⟨kvs, .inl a, b, c⟩
theorem DmR.st {α : Type} {R S : V → α → Prop} {H H' : Hp} {d : Addr} {xs : List (Str × α)} (h : DmR R H d xs) (k : ∀ o, H d = some o → H' d = some o) (hs : ∀ v y, R v y → S v y) : DmR S H' d xs := by
  obtain ⟨kvs, a, b, c⟩ := h
  refine ⟨kvs, ?_, paired_mono (fun _ _ z => ⟨z.1, hs _ _ z.2⟩) b, c⟩
  rcases a with a | ⟨o, a⟩
  · exact .inl (k _ a)
  · exact .inr ⟨o, k _ a⟩
theorem DmR.ne {α : Type} {R : V → α → Prop} {H : Hp} {d p C dx : Addr} {xs : List (Str × α)} {fs : List (Str × V)} (h : DmR R H d xs) (hp : H p = some (.ins C dx fs)) : d ≠ p := fun z => by
  obtain ⟨kvs, e, _⟩ := h
  rcases e with e | ⟨o, e⟩ <;> (rw [z, hp] at e; cases e)
/-- a house's dict of hands is no other of its dicts -/
def Apt (B : HoA) : Prop := B.hd ≠ B.pa ∧ B.hd ≠ B.bo ∧ B.hd ≠ B.pr ∧ B.hd ≠ B.gd
structure HoR (K : PySem.W.Frag) (C : Addr) (H : Hp) (B : HoA) (s : Sta) (x : SH) : Prop where
  ob : H B.p = some (.ins C B.dx B.fields)
  pa : Dm (PaV K H) H B.pa s.paths
  bo : Dm BdV H B.bo s.bounds
  pr : Dm (PrV K H) H B.pr s.progs
  hs : DmR (HV K H) H B.hd x.hs
  gs : Dm (GV K H) H B.gd x.gs
section
variable {K : PySem.W.Frag} {C : Addr} {H H' : Hp} {B : HoA} {s : Sta} {x : SH}
theorem hoR_of (h : HoAt K C H B s x) : HoR K C H B s x := ⟨h.ob, h.pa, h.bo, h.pr, (dm_toR h.hs), h.gs⟩
theorem HoR.ex (h : HoR K C H B s x) (e : Ex H H') : HoR K C H' B s x := by
  have st : ST K H H' := ST.ex e
  exact ⟨e _ _ h.ob, h.pa.st (fun _ z => e _ _ z) fun _ _ z => z.st st, h.bo.st (fun _ z => e _ _ z) fun _ _ z => z, h.pr.st (fun _ z => e _ _ z) fun _ _ z => z.st st, h.hs.st (fun _ z => e _ _ z) fun _ _ z => z.st st, h.gs.st (fun _ z => e _ _ z) fun _ _ z => z.st st⟩
theorem HoR.kp (h : HoR K C H B s x) {q Cq dq : Addr} {fq : List (Str × V)} (hq : H q = some (.ins Cq dq fq)) (ne : B.p ≠ q) (k : Kp q q H H') : HoR K C H' B s x := by
  have st : ST K H H' := st_ins hq k
  have go : ∀ {a : Addr}, a ≠ q → ∀ o, H a = some o → H' a = some o := fun n o z => k _ _ n n z
  exact ⟨go ne _ h.ob, h.pa.st (go (h.pa.ne hq)) fun _ _ z => z.st st, h.bo.st (go (h.bo.ne hq)) fun _ _ z => z, h.pr.st (go (h.pr.ne hq)) fun _ _ z => z.st st, h.hs.st (go (h.hs.ne hq)) fun _ _ z => z.st st, h.gs.st (go (h.gs.ne hq)) fun _ _ z => z.st st⟩
end
theorem dmr_some {α : Type} {R : V → α → Prop} {H : Hp} {d : Addr} {xs : List (Str × α)} {n : Str} {y : α} (h : DmR R H d xs) (hn : getN xs n = some y) : ∃ kvs v, Rd H d (.dK kvs) ∧ valV kvs (.inr n) = some v ∧ R v y := by
  obtain ⟨kvs, h1, h2, h3⟩ := h
  rcases kr_val n h2 with ⟨_, b⟩ | ⟨v, z, a, b, r⟩
  · rw [hn] at b
    cases b
  · rw [hn] at b
    cases b
    exact ⟨kvs, v, h1, a, r⟩
/-! ### a house asked -/
def spKnown (K : PySem.W.Frag) : Sp := fun vs H Q _ => ∃ (v : V) (t : PyData) (d : Addr) (kvs : List (Key × V)), vs = [v, .ref d] ∧ Dx K H v t ∧ Rd H d (.dK kvs) ∧ ∀ H', Ex H H' → Q (.bl (match t with | .str x => (valV kvs (.inr x)).isSome | _ => false)) H'
def spHandT (K : PySem.W.Frag) (C : Addr) : Sp := fun vs H Q _ => ∃ (B : HoA) (s : Sta) (x : SH) (h : Str) (r : HR), vs = [.ref B.p, .str h] ∧ HoAt K C H B s x ∧ getN x.hs h = some r ∧ ∀ v H', Ex H H' → HV K H' v r → Q v H'
def spWi (K : PySem.W.Frag) : Sp := fun vs H Q _ => ∃ (d : Addr) (xs : List (Str × HR)), vs = [.ref d] ∧ Dm (HV K H) H d xs ∧ (xs.map (·.1)).Nodup ∧ ∀ H', Ex H H' → Q (optS (inNow xs)) H'
def spWithin (K : PySem.W.Frag) (C : Addr) : Sp := fun vs H Q _ => ∃ (B : HoA) (s : Sta) (x : SH), vs = [.ref B.p] ∧ HoAt K C H B s x ∧ (x.hs.map (·.1)).Nodup ∧ ∀ H', Ex H H' → Q (optS (inNow x.hs)) H'
theorem dm_some {α : Type} {R : V → α → Prop} {H : Hp} {d : Addr} {xs : List (Str × α)} {n : Str} {y : α} (h : Dm R H d xs) (hn : getN xs n = some y) : ∃ kvs v, H d = some (.dK kvs) ∧ valV kvs (.inr n) = some v ∧ R v y := by
  obtain ⟨kvs, h1, h2, h3⟩ := h
  rcases kr_val n h2 with ⟨_, b⟩ | ⟨v, z, a, b, r⟩
  · rw [hn] at b
    cases b
  · rw [hn] at b
    cases b
    exact ⟨kvs, v, h1, a, r⟩
section
variable {P : Program} {w : World} {K : PySem.W.Frag} {mg : Str → Option Value} {base : Heap}
theorem ok_is_known (T : Tp w K mg) : FnOk P w K mg base CX0 1 T.f_is_known T.d_is_known ["thing", "names"] (spKnown K) := by
  refine T.F_is_known.ok sc_is_known (fun vs H Q E h => ?_) (fun cdv A outer s H vs Q E hr h => ?_)
  · obtain ⟨v, t, d, kvs, rfl, _⟩ := h
    rfl
  obtain ⟨v, t, d, kvs, rfl, hv, hd, q⟩ := h
  refine ⟨_, (pss_one (ps_ret (pe_and (pe_callB (isiK (K := K) rfl) rfl T.z_isinstance (by decide +kernel) (pa_cons (pv 0) (pa_cons (pe_bltn (v := .ty "str") rfl T.z_str (by decide +kernel) rfl) pa_nil (star1 rfl)) (star1 rfl)) (by decide) (by decide) (star1 rfl) (starAll rfl)) (pe_one (pe_cmp (pc_din (hu_of hr) (pv 0) (pv 1))))))), ?_⟩
  refine s_ret (ev_is (ev_andV (a := isStrB t) (b := match t with | .str x => (valV kvs (.inr x)).isSome | _ => false) (ev_isX (ev_var rfl) hv (kt_str t)) fun hb => ?_) ?_) q
  · obtain ⟨z, rfl⟩ : ∃ z, t = .str z := by
      cases t <;> first | exact ⟨_, rfl⟩ | cases hb
    cases hv
    intro H1 e1 Q' q'
    exact ⟨_, rfl, _, rfl, d, _, rfl, Or.inl ⟨kvs, .inr z, rd_ex hd e1, rfl, rfl⟩, q' H1 (Ex.refl H1)⟩
  · cases t <;> simp [isStrB]
theorem ok_House_hand (T : Tp w K mg) : FnOk P w K mg base CX0 2 T.f_House_hand T.d_House_hand ["self", "name"] (spHandT K T.C_House) := by
  refine T.F_House_hand.ok sc_House_hand (fun vs H Q E h => ?_) (fun cdv A outer s H vs Q E hr h => ?_)
  · obtain ⟨B, s, x, h, r, rfl, _⟩ := h
    rfl
  obtain ⟨B, s, x, h, r, rfl, ho, hn, q⟩ := h
  refine ⟨_, (pss_cons (ps_if (pt_not (pt_val (pe_call (ok_is_known T) (hr.mono (by decide)) rfl T.m_is_known T.F_is_known.kp (b_is_known T) .nil pass0 (pa_cons (pv 1) (pa_cons (pe_fldK (K := K) rfl (pv 0) rfl) pa_nil (star1 rfl)) (star1 rfl)) (by decide) (star1 rfl) (starAll rfl)))) (pss_one ps_never) pss_nil)
  (pss_one (ps_ret (pe_dget (hu_of hr) (pe_fldK (K := K) rfl (pv 0) rfl) (pv 1) (nosl fun _ _ => rfl))))), ?_⟩
  obtain ⟨kvs, v, hd, hv, hr'⟩ := dm_some ho.hs hn
  refine ⟨_, rfl, _, rfl, B.p, T.C_House, B.dx, B.fields, _, rfl, ho.ob, T.cl_House, T.na_House_hands, hf_hd, .str h, .str h, B.hd, kvs, rfl, .str h, .inl hd, fun H1 e1 => ⟨_, rfl, ?_⟩⟩
  refine iteF' (by show (!(valV kvs (.inr h)).isSome) = false; rw [hv]; rfl) ?_
  exact ⟨_, rfl, B.p, T.C_House, B.dx, B.fields, _, rfl, e1 _ _ ho.ob, T.cl_House, T.na_House_hands, hf_hd, _, rfl, B.hd, v, rfl, by rw [← hv]; exact DGet.k (k := .inr h) (e1 _ _ hd), q v H1 e1 (hr'.st (ST.ex e1))⟩
end
/-! ### who is within -/
section
variable {P : Program} {w : World} {K : PySem.W.Frag} {mg : Str → Option Value} {base : Heap}
theorem ok_within_of (T : Tp w K mg) : FnOk P w K mg base CX0 1 T.f_within_of T.d_within_of ["hands"] (spWi K) := by
  refine T.F_within_of.ok sc_within_of (fun vs H Q E h => ?_) (fun cdv A outer s H vs Q E hr h => ?_)
  · obtain ⟨d, xs, rfl, _⟩ := h
    rfl
  obtain ⟨d, xs, rfl, ⟨kvs, h1, h2, hln⟩, hnd, q⟩ := h
  refine ⟨_, (pss_cons (ps_lock (ps_for PassesOwn.never rfl (pi_keys (pv 0)) (pg_name (i := 1) sc_within_of.nd rfl (Or.inl rfl)) (pss_cons (ps_asg (pe_dget (hu_of hr) (pv 0) (pv 1) (nosl fun _ _ => rfl)) (pg_tup rfl (pgs_cons (pg_name (i := 2) sc_within_of.nd rfl (Or.inl rfl)) (pgs_cons (pg_name (i := 3) sc_within_of.nd rfl (Or.inl rfl)) (pgs_cons (pg_name (i := 4) sc_within_of.nd rfl (Or.inl rfl)) (pgs_cons (pg_name (i := 5) sc_within_of.nd rfl (Or.inl rfl)) pgs_nil))))))
  (pss_one (ps_if (pt_cmpR op_eq (pv 4) pe_str (nomark _)) (pss_one (ps_ret (pv 1))) pss_nil)))))
  (pss_one (ps_ret pe_non))), ?_⟩
  refine ⟨d, .dK kvs, h1, True.intro, fun od => ?_⟩
  have fz : upd H d (.frz od (.dK kvs)) d = some (.frz od (.dK kvs)) := upd_same
  have st : ST K H (upd H d (.frz od (.dK kvs))) := ST.dk h1
  have back : upd (upd H d (.frz od (.dK kvs))) d (.dK kvs) = H := by
    funext a
    by_cases e : a = d
    · subst e
      rw [upd_same, h1]
    · rw [upd_ne e, upd_ne e]
  generalize upd H d (.frz od (.dK kvs)) = G at fz st back
  refine ⟨_, rfl, d, od, rfl, Or.inl ⟨kvs, fz, for_it walk_keys (fun i σ' H' => H' = G ∧ (∀ j y, j < i → xs[j]? = some y → decide (y.2.how = .within) = false) ∧ ∃ c1 c2 c3 c4 c5, σ' = [some (.ref d), c1, c2, c3, c4, c5]) ⟨rfl, fun j y hj => absurd hj (Nat.not_lt_zero _), none, none, none, none, none, rfl⟩ (fun i σ' H' _ hP => by rw [hP.1]; exact fz) ?_ ?_⟩⟩
  · rintro i x σ' H' H'' hi ⟨rfl, hn, c1, c2, c3, c4, c5, rfl⟩ ⟨rfl, k, v, hk, rfl⟩
    obtain ⟨y, hy, ⟨e1, hv⟩⟩ := NL.paired_get h2 hk
    obtain ⟨yn, yr⟩ := y
    dsimp only at e1 hv
    subst e1
    obtain ⟨a, rfl, hs⟩ := hv.st st
    have vk : valV kvs (.inr yn) = some (.ref a) := kr_at h2 hnd hk
    refine ⟨_, rfl, _, rfl, d, .ref a, rfl, Or.inl ⟨kvs, .inr yn, Or.inr ⟨od, fz⟩, rfl, vk.symm⟩, a, _, rfl, hs, rfl, _, _, rfl, _, _, rfl, _, _, rfl, _, _, rfl, rfl, ?_⟩
    refine ⟨_, rfl, rfl, _, rfl, ?_⟩
    have hw0 : decide (V.str yr.how.str = V.str "within") = decide (yr.how = .within) := how_eq yr.how .within
    by_cases hw : yr.how = .within
    · refine iteT' (by rw [hw0, decide_eq_true hw]) ?_
      refine ⟨_, rfl, fz, ?_⟩
      rw [back]
      have := find_take (fun x : Str × HR => decide (x.2.how = .within)) xs i _ hy (decide_eq_true hw) hn
      have z := q H (Ex.refl H)
      unfold inNow at z
      rw [this] at z
      exact z
    · refine iteF' (by rw [hw0, decide_eq_false hw]) ?_
      refine ⟨rfl, fun j y hj hy' => ?_, _, _, _, _, _, rfl⟩
      rcases Nat.lt_succ_iff_lt_or_eq.mp hj with z | z
      · exact hn j y z hy'
      · subst z
        rw [hy] at hy'
        cases hy'
        exact decide_eq_false hw
  · rintro σ' H' ⟨rfl, hn, c1, c2, c3, c4, c5, rfl⟩
    refine ⟨fz, ?_⟩
    rw [back]
    rw [paired_len h2] at hn
    have := find_no _ xs hn
    have z := q H (Ex.refl H)
    unfold inNow at z
    rw [this] at z
    exact z
theorem ok_House_within (T : Tp w K mg) : FnOk P w K mg base CX0 2 T.f_House_within T.d_House_within ["self"] (spWithin K T.C_House) := by
  refine T.F_House_within.ok sc_House_within (fun vs H Q E h => ?_) (fun cdv A outer s H vs Q E hr h => ?_)
  · obtain ⟨B, s, x, rfl, _⟩ := h
    rfl
  obtain ⟨B, s, x, rfl, ho, hnd, q⟩ := h
  refine ⟨_, (pss_one (ps_ret (pe_call (ok_within_of T) (hr.mono (by decide)) rfl T.m_within_of T.F_within_of.kp (b_within_of T) .nil pass0 (pa_cons (pe_fldK (K := K) rfl (pv 0) rfl) pa_nil (star1 rfl)) (by decide) (star1 rfl) (starAll rfl)))), ?_⟩
  exact ⟨_, rfl, B.p, T.C_House, B.dx, B.fields, _, rfl, ho.ob, T.cl_House, T.na_House_hands, hf_hd, B.hd, x.hs, rfl, ho.hs, hnd, q⟩
end
/-! ### drafts -/
def spLoose (K : PySem.W.Frag) (C : Addr) : Sp := fun vs H Q _ => ∃ (A : DrA) (d : DS) (m : Str), vs = [.ref A.q, .str m] ∧ DrAt K C H A d ∧ ∀ H', Ex H H' → Q (.bl (d.loose m)) H'
def spGive (K : PySem.W.Frag) (C : Addr) : Sp := fun vs H Q _ => ∃ (A : DrA) (d : DS) (m : Str), vs = [.ref A.q, .str m] ∧ DrAt K C H A d ∧ downOk FU d m ∧ d.told.length ≤ 80000 ∧ ∀ H', DrAt K C H' A (giveLock FU d m) → K4 A H H' → Q .non H'
def spAddP (K : PySem.W.Frag) (C : Addr) : Sp := fun vs H Q _ => ∃ (A : DrA) (d : DS) (m n : Str) (g : GR), vs = [.ref A.q, .str m, .str n] ∧ DrAt K C H A d ∧ getN d.gs n = some g ∧ g.places.length ≤ 5000 ∧ ∀ H', DrAt K C H' A (addPlace d m n) → K4 A H H' → Q .non H'
section
variable {P : Program} {w : World} {K : PySem.W.Frag} {mg : Str → Option Value} {base : Heap}
theorem ok_is_loose (T : Tp w K mg) : FnOk P w K mg base CX0 1 T.f_is_loose T.d_is_loose ["draft", "member"] (spLoose K T.C_Draft) := by
  refine T.F_is_loose.ok sc_is_loose (fun vs H Q E h => ?_) (fun cdv A outer s H vs Q E hr h => ?_)
  · obtain ⟨A, d, m, rfl, _⟩ := h
    rfl
  obtain ⟨A, d, m, rfl, x, q⟩ := h
  refine ⟨_, (pss_cons (ps_if (pt_cmp (pc_dnotin (hu_of hr) (pv 1) (pe_fldK (K := K) rfl (pv 0) rfl))) (pss_one (ps_ret pe_bl)) pss_nil)
  (pss_cons (ps_asg (pe_dget (hu_of hr) (pe_fldK (K := K) rfl (pv 0) rfl) (pv 1) (nosl fun _ _ => rfl)) (pg_tup rfl (pgs_cons (pg_name (i := 2) sc_is_loose.nd rfl (Or.inl rfl)) (pgs_cons (pg_name (i := 3) sc_is_loose.nd rfl (Or.inl rfl)) (pgs_cons (pg_name (i := 4) sc_is_loose.nd rfl (Or.inl rfl)) (pgs_cons (pg_name (i := 5) sc_is_loose.nd rfl (Or.inl rfl)) pgs_nil))))))
  (pss_one (ps_ret (pe_cmpR op_eq (pv 4) pe_str (nomark _)))))), ?_⟩
  refine q_when (et_test (ev_ninH T.dc x rfl rfl)) (fun hb H1 e1 => ?_) (fun hb H1 e1 => ?_)
  · refine s_ret ev_c fun H2 e2 => ?_
    have z := q H2 (e1.trans e2)
    cases hn : getN d.hs m with
    | none =>
      unfold DS.loose at z
      rw [hn] at z
      exact z
    | some r =>
      rw [hn] at hb
      cases hb
  · cases hn : getN d.hs m with
    | none =>
      rw [hn] at hb
      cases hb
    | some r =>
      refine q_getH T.dc (x.ex e1) rfl rfl hn ?_
      refine s_ret (ev_is (ev_eq (ev_var rfl) ev_c rfl) (w := .bl (d.loose m)) ?_) fun H2 e2 => q H2 (e1.trans e2)
      unfold DS.loose
      rw [hn]
      exact congrArg V.bl (how_eq r.how .loose)
theorem ok_give_lock (T : Tp w K mg) : FnOk P w K mg base CX0 1 T.f_give_lock T.d_give_lock ["draft", "member"] (spGive K T.C_Draft) := by
  refine T.F_give_lock.ok sc_give_lock (fun vs H Q E h => ?_) (fun cdv A outer s H vs Q E hr h => ?_)
  · obtain ⟨A, d, m, rfl, _⟩ := h
    rfl
  obtain ⟨A, d, m, rfl, x, dn, hl, q⟩ := h
  refine ⟨_, (pss_cons (ps_while PassesOwn.never (pt_cmp (pc_din (hu_of hr) (pv 1) (pe_fldK (K := K) rfl (pv 0) rfl))) (pss_cons (ps_asg (pe_dget (hu_of hr) (pe_fldK (K := K) rfl (pv 0) rfl) (pv 1) (nosl fun _ _ => rfl)) (pg_tup rfl (pgs_cons (pg_name (i := 6) sc_give_lock.nd rfl (Or.inl rfl)) (pgs_cons (pg_name (i := 7) sc_give_lock.nd rfl (Or.inl rfl)) (pgs_cons (pg_name (i := 8) sc_give_lock.nd rfl (Or.inl rfl)) pgs_nil)))))
  (pss_cons (ps_dput (hu_of hr) (pe_fldK (K := K) rfl (pv 0) rfl) (pv 1) (pe_tup (pa_cons (pv 6) (pa_cons pe_int (pa_cons (pv 8) pa_nil (star1 rfl)) (star1 rfl)) (star1 rfl))) rfl)
  (pss_one (ps_set (i := 1) sc_give_lock.nd rfl (Or.inl rfl) (pv 6))))))
  (pss_cons (ps_asg (pe_dget (hu_of hr) (pe_fldK (K := K) rfl (pv 0) rfl) (pv 1) (nosl fun _ _ => rfl)) (pg_tup rfl (pgs_cons (pg_name (i := 2) sc_give_lock.nd rfl (Or.inl rfl)) (pgs_cons (pg_name (i := 3) sc_give_lock.nd rfl (Or.inl rfl)) (pgs_cons (pg_name (i := 4) sc_give_lock.nd rfl (Or.inl rfl)) (pgs_cons (pg_name (i := 5) sc_give_lock.nd rfl (Or.inl rfl)) pgs_nil))))))
  (pss_cons (ps_dput (hu_of hr) (pe_fldK (K := K) rfl (pv 0) rfl) (pv 1) (pe_tup (pa_cons (pe_op op_add (pv 2) pe_int) (pa_cons pe_int (pa_cons pe_str (pa_cons pe_non pa_nil (star1 rfl)) (star1 rfl)) (star1 rfl)) (star1 rfl))) rfl)
  (pss_one (ps_expr (pe_bm PySem.F.plainAttrs_list PySem.F.slot_list_append PySem.F.type_list_append mt_append (pe_fldK (K := K) rfl (pv 0) rfl) (pa_cons (pe_tup (pa_cons pe_str (pa_cons (pv 1) pa_nil (star1 rfl)) (star1 rfl))) pa_nil (star1 rfl)))))))), ?_⟩
  refine q_while (fun k σ' H' => ∃ d' mm c2 c3 c4 c5 c6 c7 c8, σ' = [some (.ref A.q), some (.str mm), c2, c3, c4, c5, c6, c7, c8] ∧ DrAt K T.C_Draft H' A d' ∧ K4 A H H' ∧ downOk k d' mm ∧ giveLock k d' mm = giveLock FU d m ∧ d'.told = d.told) FU ⟨d, m, none, none, none, none, none, none, none, rfl, x, K4.refl A H, dn, rfl, rfl⟩ ?_
  intro k σ' H1 hW
  obtain ⟨d', mm, c2, c3, c4, c5, c6, c7, c8, rfl, x1, k1, dn1, eq1, ht⟩ := hW
  cases k with
  | zero => exact dn1.elim
  | succ k =>
    refine ⟨_, et_test (ev_inG T.dc x1 rfl rfl), fun hb H2 e2 => ?_, fun hb H2 e2 => ?_⟩
    · cases hn : getN d'.gs mm with
      | none =>
        rw [hn] at hb
        cases hb
      | some g =>
        simp only [downOk, hn] at dn1
        obtain ⟨m', hm', dn2⟩ := dn1
        refine ⟨_, fun σ2 H3 hN => ⟨k, Nat.lt_succ_self k, hN⟩, ?_⟩
        have x2 := x1.ex e2
        refine q_getG T.dc x2 rfl rfl hn fun u pl => ?_
        refine q_putG (g' := { g with count := 1 }) T.dc x2 rfl rfl hn (eu_tup (ea_cons (ev_var rfl) (ea_cons ev_c (ea_cons (ev_var rfl) ea_nil))) (by simp)) pl fun H3 x3 k3 => ?_
        refine s_asg (v := .str m') (ev_is (ev_var rfl) (by rw [hm']; rfl)) fun H4 e4 => ?_
        refine ⟨_, m', _, _, _, _, _, _, _, rfl, x3.ex e4, ((k1.trans (K4.ex e2)).trans k3).trans (K4.ex e4), dn2, ?_, ht⟩
        rw [← eq1]
        simp only [giveLock, hn, hm', Option.getD_some]
    · cases hn : getN d'.gs mm with
      | some g =>
        rw [hn] at hb
        cases hb
      | none =>
        simp only [downOk, hn] at dn1
        obtain ⟨r, hr2⟩ := dn1
        have x2 := x1.ex e2
        refine q_getH T.dc x2 rfl rfl hr2 ?_
        refine q_putH (r' := ⟨r.row + 1, 1, .within, none⟩) T.dc x2 rfl rfl hr2 (eu_tup (ea_cons (ev_I0 (ev_var rfl) ev_c) (ea_cons ev_c (ea_cons ev_c (ea_cons ev_c ea_nil)))) (by simp)) fun H3 x3 k3 => ?_
        refine s_tell (ds := [.str "came", .str mm]) T.dc x3 rfl (eu_tup (ea_cons ev_c (ea_cons (ev_var rfl) ea_nil)) (by simp)) (.cons rfl (.cons rfl .nil)) (by show d'.told.length < _; rw [ht]; omega) fun H4 x4 k4 => ?_
        refine q H4 ?_ (((k1.trans (K4.ex e2)).trans k3).trans k4)
        rw [← eq1]
        simp only [giveLock, hn, came, hr2]
        exact x4
theorem ok_add_place (T : Tp w K mg) : FnOk P w K mg base CX0 1 T.f_add_place T.d_add_place ["draft", "member", "group"] (spAddP K T.C_Draft) := by
  refine T.F_add_place.ok sc_add_place (fun vs H Q E h => ?_) (fun cdv A outer s H vs Q E hr h => ?_)
  · obtain ⟨A, d, m, n, g, rfl, _⟩ := h
    rfl
  obtain ⟨A, d, m, n, g, rfl, x, hn, hl, q⟩ := h
  refine ⟨_, (pss_cons (ps_asg (pe_dget (hu_of hr) (pe_fldK (K := K) rfl (pv 0) rfl) (pv 2) (nosl fun _ _ => rfl)) (pg_tup rfl (pgs_cons (pg_name (i := 3) sc_add_place.nd rfl (Or.inl rfl)) (pgs_cons (pg_name (i := 4) sc_add_place.nd rfl (Or.inl rfl)) (pgs_cons (pg_name (i := 5) sc_add_place.nd rfl (Or.inl rfl)) pgs_nil)))))
  (pss_one (ps_dput (hu_of hr) (pe_fldK (K := K) rfl (pv 0) rfl) (pv 2) (pe_tup (pa_cons (pv 3) (pa_cons (pv 4) (pa_cons (pe_tup (StX.pa_star (pv 5) (pa_cons (pe_tup (pa_cons (pv 1) (pa_cons pe_bl pa_nil (star1 rfl)) (star1 rfl))) pa_nil (star1 rfl)))) pa_nil (star1 rfl)) (star1 rfl)) (star1 rfl))) rfl))), ?_⟩
  refine q_getG T.dc x rfl rfl hn fun u pl => ?_
  obtain ⟨pa, xs, rfl, st, pd⟩ := pl
  have len := paired_len pd
  refine s_putGR (g' := { g with places := g.places ++ [(m, true)] }) T.dc x rfl rfl hn (fun Q' q' => ?_) fun H' x' k' => q H' ?_ k'
  · refine ⟨_, rfl, _, rfl, _, rfl, pa, xs, rfl, Or.inl st, _, rfl, (by show 2 ≤ sizeLine; decide), fun t ht => ⟨sz_of (by rw [List.length_append]; simp; omega), fun p hp => ⟨(by show 3 ≤ sizeLine; decide), fun r hr' => ?_⟩⟩⟩
    have e1 := Ex.new (o := .tup [.str m, .bl true]) ht
    have e2 := Ex.new (o := .tup (xs ++ [.ref t])) hp
    have e3 := Ex.new (o := .tup [optS g.holder, .int g.count, .ref p]) hr'
    refine q' (.ref r) _ ((e1.trans e2).trans e3) ⟨r, .ref p, rfl, st_of upd_same, p, xs ++ [.ref t], rfl, st_of (e3 _ _ upd_same), paired_app (paired_mono (fun _ _ z => z.st (ST.ex ((e1.trans e2).trans e3))) pd) (.cons ⟨t, rfl, st_of (e3 _ _ (e2 _ _ upd_same))⟩ .nil)⟩
  · unfold addPlace
    rw [hn]
    exact x'
end
/-! ### standing in rows -/
def spStand (K : PySem.W.Frag) (C : Addr) : Sp := fun vs H Q _ => ∃ (A : DrA) (d : DS) (s : Sta) (hand : Str) (looks : Option Int) (r : HR) (p : List Str), vs = [.ref A.q, .str hand, optI looks] ∧ DrAt K C H A d ∧ StAt K H A s ∧ getN d.hs hand = some r ∧ getN s.paths hand = some p ∧
  p.length ≤ 100 ∧ standOk hand r looks (d.setH hand ⟨r.row, r.last, .waits, looks⟩) hand p ∧ d.told.length ≤ 70000 ∧ ∀ H', DrAt K C H' A (stand s d hand looks) → K4 A H H' → Q .non H'
theorem drop_at {α : Type} {p : List α} {i : Nat} {g : α} (h : p[i]? = some g) : p.drop i = g :: p.drop (i + 1) := by
  have hi := (List.getElem?_eq_some_iff.mp h).1
  have e := (List.getElem?_eq_some_iff.mp h).2
  rw [List.drop_eq_getElem_cons hi, e]
theorem ev_notN {σ : L2.St} {H : Hp} {ta : TE} {x : V} (ha : Ev ta σ H x) : Ev (tNotN ta) σ H (.bl (!decide (x = .non))) := fun H1 e Q q => ha H1 e _ fun H2 e2 => q H2 e2
theorem opt_non (o : Option Str) : (!decide (optS o = .non)) = o.isSome := by cases o <;> rfl
section
variable {P : Program} {w : World} {K : PySem.W.Frag} {mg : Str → Option Value} {base : Heap}
theorem ok_stand (T : Tp w K mg) : FnOk P w K mg base CX0 2 T.f_stand T.d_stand ["draft", "hand", "looks"] (spStand K T.C_Draft) := by
  refine T.F_stand.ok sc_stand (fun vs H Q E h => ?_) (fun cdv A outer s H vs Q E hr h => ?_)
  · obtain ⟨A, d, s, hand, looks, r, p, rfl, _⟩ := h
    rfl
  obtain ⟨A, d, s, hand, looks, r, p, rfl, x, t, hn, hp, hpl, ok, hl, q⟩ := h
  refine ⟨_, (pss_cons (ps_asg (pe_dget (hu_of hr) (pe_fldK (K := K) rfl (pv 0) rfl) (pv 1) (nosl fun _ _ => rfl)) (pg_tup rfl (pgs_cons (pg_name (i := 3) sc_stand.nd rfl (Or.inl rfl)) (pgs_cons (pg_name (i := 4) sc_stand.nd rfl (Or.inl rfl)) (pgs_cons (pg_name (i := 5) sc_stand.nd rfl (Or.inl rfl)) (pgs_cons (pg_name (i := 6) sc_stand.nd rfl (Or.inl rfl)) pgs_nil))))))
  (pss_cons (ps_dput (hu_of hr) (pe_fldK (K := K) rfl (pv 0) rfl) (pv 1) (pe_tup (pa_cons (pv 3) (pa_cons (pv 4) (pa_cons pe_str (pa_cons (pv 2) pa_nil (star1 rfl)) (star1 rfl)) (star1 rfl)) (star1 rfl))) rfl)
  (pss_cons (ps_set (i := 7) sc_stand.nd rfl (Or.inl rfl) (pe_dget (hu_of hr) (pe_fldK (K := K) rfl (pv 0) rfl) (pv 1) (nosl fun _ _ => rfl)))
  (pss_cons (ps_set (i := 8) sc_stand.nd rfl (Or.inl rfl) (pv 1))
  (pss_cons (ps_for PassesOwn.never rfl (pi_tup (pv 7)) (pg_name (i := 9) sc_stand.nd rfl (Or.inl rfl)) (pss_cons (ps_asg (pe_dget (hu_of hr) (pe_fldK (K := K) rfl (pv 0) rfl) (pv 9) (nosl fun _ _ => rfl)) (pg_tup rfl (pgs_cons (pg_name (i := 10) sc_stand.nd rfl (Or.inl rfl)) (pgs_cons (pg_name (i := 11) sc_stand.nd rfl (Or.inl rfl)) (pgs_cons (pg_name (i := 12) sc_stand.nd rfl (Or.inl rfl)) pgs_nil)))))
  (pss_cons (ps_if (pt_cmp (pc_notN (pv 10))) (pss_cons (ps_expr (pe_call (ok_add_place T) (hr.mono (by decide)) rfl T.m_add_place T.F_add_place.kp (b_add_place T) .nil pass0 (pa_cons (pv 0) (pa_cons (pv 8) (pa_cons (pv 9) pa_nil (star1 rfl)) (star1 rfl)) (star1 rfl)) (by decide) (star1 rfl) (starAll rfl)))
  (pss_cons (ps_expr (pe_bm PySem.F.plainAttrs_list PySem.F.slot_list_append PySem.F.type_list_append mt_append (pe_fldK (K := K) rfl (pv 0) rfl) (pa_cons (pe_tup (pa_cons pe_str (pa_cons (pv 8) (pa_cons (pv 9) pa_nil (star1 rfl)) (star1 rfl)) (star1 rfl))) pa_nil (star1 rfl))))
  (pss_cons (ps_if (pt_cmpR op_eq (pv 8) (pv 1) (nomark _)) (pss_one (ps_dput (hu_of hr) (pe_fldK (K := K) rfl (pv 0) rfl) (pv 1) (pe_tup (pa_cons (pv 3) (pa_cons (pv 4) (pa_cons pe_str (pa_cons (pv 2) pa_nil (star1 rfl)) (star1 rfl)) (star1 rfl)) (star1 rfl))) rfl)) pss_nil)
  (pss_one ps_retN)))) pss_nil)
  (pss_cons (ps_dput (hu_of hr) (pe_fldK (K := K) rfl (pv 0) rfl) (pv 9) (pe_tup (pa_cons (pv 8) (pa_cons (pv 11) (pa_cons (pv 12) pa_nil (star1 rfl)) (star1 rfl)) (star1 rfl))) rfl)
  (pss_cons (ps_expr (pe_bm PySem.F.plainAttrs_list PySem.F.slot_list_append PySem.F.type_list_append mt_append (pe_fldK (K := K) rfl (pv 0) rfl) (pa_cons (pe_tup (pa_cons pe_str (pa_cons (pv 8) (pa_cons (pv 9) pa_nil (star1 rfl)) (star1 rfl)) (star1 rfl))) pa_nil (star1 rfl))))
  (pss_one (ps_set (i := 8) sc_stand.nd rfl (Or.inl rfl) (pv 9))))))))
  (pss_one (ps_expr (pe_call (ok_give_lock T) (hr.mono (by decide)) rfl T.m_give_lock T.F_give_lock.kp (b_give_lock T) .nil pass0 (pa_cons (pv 0) (pa_cons (pv 8) pa_nil (star1 rfl)) (star1 rfl)) (by decide) (star1 rfl) (starAll rfl))))))))), ?_⟩
  refine q_getH T.dc x rfl rfl hn ?_
  refine q_putH (r' := ⟨r.row, r.last, .waits, looks⟩) T.dc x rfl rfl hn (eu_tup (ea_cons (ev_var rfl) (ea_cons (ev_var rfl) (ea_cons ev_c (ea_cons (ev_var rfl) ea_nil)))) (by simp)) fun H1 x1 k1 => ?_
  have t1 := t.k4 x k1
  refine q_path T.dc x1 t1 rfl rfl hp fun pa st => ?_
  refine q_asg (v := .str hand) (ev_var rfl) fun H2 e2 => ?_
  have x2 := x1.ex e2
  have hw0 : getN (d.setH hand ⟨r.row, r.last, .waits, looks⟩).hs hand = some ⟨r.row, r.last, .waits, looks⟩ := getN_same hn
  have eq0 : standL hand r looks (d.setH hand ⟨r.row, r.last, .waits, looks⟩) hand p = stand s d hand looks := by
    unfold stand
    rw [hn, hp]
  generalize hd1 : d.setH hand ⟨r.row, r.last, .waits, looks⟩ = d1 at x1 x2 ok hw0 eq0
  have hl1 : d1.told.length ≤ 70000 := by rw [← hd1]; exact hl
  refine q_forT (K := K) (a := pa) (xs := p.map V.str) (ev_var rfl) (ex_t e2 st) (fun i σ' H' => ∃ d' mm c9 c10 c11 c12, σ' = [some (.ref A.q), some (.str hand), some (optI looks), some (.int r.row), some (.int r.last), some (.str r.how.str), some (optI r.looks), some (.ref pa), some (.str mm), c9, c10, c11, c12] ∧ DrAt K T.C_Draft H' A d' ∧ K4 A H2 H' ∧ standOk hand r looks d' mm (p.drop i) ∧ standL hand r looks d' mm (p.drop i) = stand s d hand looks ∧ d'.told.length ≤ 70000 + i ∧ d'.hs = d1.hs) ?_ ?_ ?_ ?_
  · intro H3 e3
    exact ⟨d1, hand, _, _, _, _, rfl, x2.ex e3, K4.ex e3, ok, eq0, hl1, rfl⟩
  · intro i σ' H' _ hP
    obtain ⟨d', mm, c9, c10, c11, c12, rfl, x', k', _⟩ := hP
    exact x2.sT k' _ _ (ex_t e2 st)
  · intro i v σ' H3 hv hP
    obtain ⟨d', mm, c9, c10, c11, c12, rfl, x3, k3, ok3, eq3, hl3, hh3⟩ := hP
    rw [List.getElem?_map] at hv
    cases hg : p[i]? with
    | none =>
      rw [hg] at hv
      cases hv
    | some g =>
      rw [hg] at hv
      cases hv
      have hi := (List.getElem?_eq_some_iff.mp hg).1
      rw [drop_at hg] at ok3 eq3
      obtain ⟨gr, hgr, hpl3, okn⟩ := ok3
      simp only [standL, hgr] at eq3
      refine q_getG T.dc x3 rfl rfl hgr fun u pl => ?_
      refine q_when (et_is (et_test (ev_notN (ev_var rfl))) (opt_non gr.holder)) (fun hb H4 e4 => ?_) (fun hb H4 e4 => ?_)
      · rw [hb, if_pos rfl] at eq3
        have x4 := x3.ex e4
        refine q_dropP ?_
        refine ⟨_, rfl, _, rfl, _, rfl, A, d', mm, g, gr, rfl, x4, hgr, hpl3, fun H5 x5 k5 => ?_⟩
        have ht5 : (addPlace d' mm g).told = d'.told := by
          unfold addPlace
          rw [hgr]
          rfl
        have hs5 : (addPlace d' mm g).hs = d'.hs := by
          unfold addPlace
          rw [hgr]
          rfl
        refine q_tell (ds := [.str "stood", .str mm, .str g]) T.dc x5 rfl (eu_tup (ea_cons ev_c (ea_cons (ev_var rfl) (ea_cons (ev_var rfl) ea_nil))) (by simp)) (.cons rfl (.cons rfl (.cons rfl .nil))) (by rw [ht5]; omega) fun H6 x6 k6 => ?_
        have k06 : K4 A H H6 := (((((k1.trans (K4.ex e2)).trans k3).trans (K4.ex e4)).trans k5).trans k6)
        refine q_when (et_test (ev_eq (ev_var rfl) (ev_var rfl) rfl)) (fun hm H7 e7 => ?_) (fun hm H7 e7 => ?_)
        · have hm : mm = hand := V.str.inj (of_decide_eq_true hm)
          rw [if_pos hm] at eq3
          refine s_putH (r := ⟨r.row, r.last, .waits, looks⟩) (r' := ⟨r.row, r.last, .loose, looks⟩) T.dc (x6.ex e7) rfl rfl (by show getN (addPlace d' mm g).hs hand = _; rw [hs5, hh3]; exact hw0) (eu_tup (ea_cons (ev_var rfl) (ea_cons (ev_var rfl) (ea_cons ev_c (ea_cons (ev_var rfl) ea_nil)))) (by simp)) fun H8 x8 k8 => ?_
          rw [← eq3] at q
          exact q H8 x8 ((k06.trans (K4.ex e7)).trans k8)
        · have hm : ¬ mm = hand := fun z => by rw [z] at hm; simp at hm
          rw [if_neg hm] at eq3
          rw [← eq3] at q
          exact q H7 (x6.ex e7) (k06.trans (K4.ex e7))
      · have hno : gr.holder = none := by
          cases z : gr.holder with
          | none => rfl
          | some y => rw [z] at hb; cases hb
        have ok4 := okn hno
        rw [hno, Option.isSome_none, if_neg (by decide)] at eq3
        have x4 := x3.ex e4
        refine q_putG (g' := { gr with holder := some mm }) T.dc x4 rfl rfl hgr (eu_tup (ea_cons (ev_var rfl) (ea_cons (ev_var rfl) (ea_cons (ev_var rfl) ea_nil))) (by simp)) (pl.st (ST.ex e4)) fun H5 x5 k5 => ?_
        refine q_tell (ds := [.str "held", .str mm, .str g]) T.dc x5 rfl (eu_tup (ea_cons ev_c (ea_cons (ev_var rfl) (ea_cons (ev_var rfl) ea_nil))) (by simp)) (.cons rfl (.cons rfl (.cons rfl .nil))) (by show d'.told.length < _; omega) fun H6 x6 k6 => ?_
        refine s_asg (v := .str g) (ev_var rfl) fun H7 e7 => ?_
        refine ⟨_, g, _, _, _, _, rfl, x6.ex e7, (((k3.trans (K4.ex e4)).trans k5).trans k6).trans (K4.ex e7), ok4, eq3, ?_, hh3⟩
        rw [tell_len]
        show d'.told.length + 1 ≤ _
        omega
  · intro σ' H3 hP
    obtain ⟨d', mm, c9, c10, c11, c12, rfl, x3, k3, ok3, eq3, hl3, hh3⟩ := hP
    rw [List.length_map, List.drop_length] at ok3 eq3
    rw [List.length_map] at hl3
    refine s_dropP ?_
    refine ⟨_, rfl, _, rfl, A, d', mm, rfl, x3, ok3, by omega, fun H4 x4 k4 => ?_⟩
    rw [← eq3] at q
    exact q H4 x4 (((k1.trans (K4.ex e2)).trans k3).trans k4)
end
/-! ### handing on -/
theorem q_seqM {t tz : TS} {D : Ends} {σ : L2.St} {H : Hp} (M : L2.St → Hp → Prop) (tail : ∀ σ' H', M σ' H' → tz D σ' H') (go : ∀ R : L2.St → Hp → Prop, (∀ σ' H', M σ' H' → R σ' H') → t { D with nx := R } σ H) : tSeq t tz D σ H := go (tz D) tail
def spPass (K : PySem.W.Frag) (C : Addr) : Sp := fun vs H Q _ => ∃ (A : DrA) (d : DS) (n : Str) (g : GR), vs = [.ref A.q, .str n] ∧ DrAt K C H A d ∧ getN d.gs n = some g ∧ g.places.length ≤ 5000 ∧ d.told.length ≤ 70000 ∧ d.firsts.length ≤ 5000 ∧ ∀ H', DrAt K C H' A (passLeft d n).1 → K4 A H H' → Q (optS (passLeft d n).2) H'
def spHandOn (K : PySem.W.Frag) (C : Addr) : Sp := fun vs H Q _ => ∃ (A : DrA) (d : DS) (n why : Str) (c : Int) (g : GR) (p : Str × Bool) (rest : List (Str × Bool)), vs = [.ref A.q, .str n, .str why, .int c] ∧ DrAt K C H A d ∧ getN d.gs n = some g ∧ g.places = p :: rest ∧ d.told.length ≤ 80000 ∧ ∀ H', DrAt K C H' A (handOn d n why c).1 → K4 A H H' → Q (.str p.1) H'
def spNear (K : PySem.W.Frag) (C : Addr) : Sp := fun vs H Q _ => ∃ (A : DrA) (d : DS) (n : Str) (ar : Option Str) (g : GR) (p : Str × Bool) (rest : List (Str × Bool)), vs = [.ref A.q, .str n, optS ar] ∧ DrAt K C H A d ∧ getN d.gs n = some g ∧ g.places = p :: rest ∧ d.told.length ≤ 70000 ∧
  (∀ c, downOk FU (handOn d n "near" c).1 p.1) ∧ ∀ H', DrAt K C H' A (handNear d n ar.isNone) → K4 A H H' → Q .non H'
def spOver (K : PySem.W.Frag) (C : Addr) : Sp := fun vs H Q _ => ∃ (A : DrA) (d : DS) (n ar : Str) (g g2 : GR) (p : Str × Bool) (rest : List (Str × Bool)), vs = [.ref A.q, .str n, .str ar] ∧ DrAt K C H A d ∧ getN d.gs n = some g ∧ g.places = p :: rest ∧ n ≠ ar ∧ getN d.gs ar = some g2 ∧ g2.places.length ≤ 5000 ∧ d.told.length ≤ 80000 ∧
  ∀ H', DrAt K C H' A (handOver d n ar) → K4 A H H' → Q .non H'
def spBare (K : PySem.W.Frag) (C : Addr) : Sp := fun vs H Q _ => ∃ (A : DrA) (d : DS) (n : Str) (g : GR), vs = [.ref A.q, .str n] ∧ DrAt K C H A d ∧ getN d.gs n = some g ∧ d.told.length ≤ 80000 ∧ ∀ H', DrAt K C H' A (makeBare d n) → K4 A H H' → Q .non H'
def spBelow (K : PySem.W.Frag) (C : Addr) : Sp := fun vs H Q _ => ∃ (A : DrA) (d : DS) (s : Sta) (n : Str) (g : GR) (b : Int), vs = [.ref A.q, .str n] ∧ DrAt K C H A d ∧ StAt K H A s ∧ getN d.gs n = some g ∧ getN s.bounds n = some b ∧ ∀ H', Ex H H' → Q (.bl (isBelow s d n)) H'
def spWithout (K : PySem.W.Frag) : Sp := fun vs H Q _ => ∃ (u : V) (ps : List (Str × Bool)) (m : Str), vs = [u, .str m] ∧ PlsV K H u ps ∧ ps.length ≤ 5000 ∧ ∀ v H', Ex H H' → PlsV K H' v (without ps m) → Q v H'
theorem take_left {done rest : List (Str × Bool)} (h : ∀ p ∈ done, p.2 = false) (hr : ∀ p t, rest = p :: t → p.2 = true) : (done ++ rest).takeWhile (fun p => !p.2) = done ∧ (done ++ rest).dropWhile (fun p => !p.2) = rest := by
  induction done with
  | nil =>
    cases rest with
    | nil => exact ⟨rfl, rfl⟩
    | cons p t =>
      have := hr p t rfl
      simp [this]
  | cons p t ih =>
    have h1 := h p List.mem_cons_self
    obtain ⟨a, b⟩ := ih fun q hq => h q (List.mem_cons_of_mem _ hq)
    simp [h1, a, b]
theorem sl1 {K : PySem.W.Frag} {σ : L2.St} {H : Hp} {i : Nat} {a : Addr} {xs : List V} (e : σ[i]? = some (some (.ref a))) (st : SqT K H a xs) (hn : xs ≠ []) : EvU (tSl (rSlA K) (tVar i) (tPart (tC (.int 1))) tNoPart) σ H (xs.drop 1) := fun H1 e1 Q q => by
  refine ⟨_, e, 1, rfl, a, xs, rfl, ex_t e1 st, fun z => ?_, fun _ p hp => ?_⟩
  · have h1 : HT.sIx xs.length 0 (some ((1 : Nat) : Int)) = 0 := z.1
    rw [HT.sIx_nat] at h1
    have : xs.length ≠ 0 := fun y => hn (List.length_eq_zero_iff.mp y)
    omega
  · have h2 : cutV xs (some ((1 : Nat) : Int)) none = xs.drop 1 := cut_from
    have h3 : cutV xs (some 1) none = xs.drop 1 := h2
    rw [h3]
    exact q p _ hp (Ex.new hp) upd_same
section
variable {P : Program} {w : World} {K : PySem.W.Frag} {mg : Str → Option Value} {base : Heap}
theorem ok_pass_left (T : Tp w K mg) : FnOk P w K mg base CX0 1 T.f_pass_left T.d_pass_left ["draft", "group"] (spPass K T.C_Draft) := by
  refine T.F_pass_left.ok sc_pass_left (fun vs H Q E h => ?_) (fun cdv A outer s H vs Q E hr h => ?_)
  · obtain ⟨A, d, n, g, rfl, _⟩ := h
    rfl
  obtain ⟨A, d, n, g, rfl, x, hn, hpl, hl, hf, q⟩ := h
  refine ⟨_, (pss_cons (ps_asg (pe_dget (hu_of hr) (pe_fldK (K := K) rfl (pv 0) rfl) (pv 1) (nosl fun _ _ => rfl)) (pg_tup rfl (pgs_cons (pg_name (i := 2) sc_pass_left.nd rfl (Or.inl rfl)) (pgs_cons (pg_name (i := 3) sc_pass_left.nd rfl (Or.inl rfl)) (pgs_cons (pg_name (i := 4) sc_pass_left.nd rfl (Or.inl rfl)) pgs_nil)))))
  (pss_cons (ps_while PassesOwn.never (pt_cmpR op_gt (pe_callB (lenK (K := K) rfl) rfl T.z_len PySem.boot_len (pa_cons (pv 4) pa_nil (star1 rfl)) (by decide) (by decide) (star1 rfl) (starAll rfl)) pe_int (nomark _)) (pss_cons (ps_asg (pe_ix (ixTK (K := K) rfl) (pv 4) pe_int (fun _ _ => rfl)) (pg_tup rfl (pgs_cons (pg_name (i := 6) sc_pass_left.nd rfl (Or.inl rfl)) (pgs_cons (pg_name (i := 7) sc_pass_left.nd rfl (Or.inl rfl)) pgs_nil))))
  (pss_cons (ps_if (pt_val (pv 7)) (pss_one ps_break) pss_nil)
  (pss_cons (ps_expr (pe_bm PySem.F.plainAttrs_list PySem.F.slot_list_append PySem.F.type_list_append mt_append (pe_fldK (K := K) rfl (pv 0) rfl) (pa_cons (pe_tup (pa_cons pe_str (pa_cons (pv 6) (pa_cons (pv 1) pa_nil (star1 rfl)) (star1 rfl)) (star1 rfl))) pa_nil (star1 rfl))))
  (pss_one (ps_set (i := 4) sc_pass_left.nd rfl (Or.inl rfl) (pe_slice (slAK (K := K) rfl) (pv 4) (po_some pe_int) po_none)))))))
  (pss_cons (ps_dput (hu_of hr) (pe_fldK (K := K) rfl (pv 0) rfl) (pv 1) (pe_tup (pa_cons (pv 2) (pa_cons (pv 3) (pa_cons (pv 4) pa_nil (star1 rfl)) (star1 rfl)) (star1 rfl))) rfl)
  (pss_cons (ps_if (pt_cmpR op_eq (pe_callB (lenK (K := K) rfl) rfl T.z_len PySem.boot_len (pa_cons (pv 4) pa_nil (star1 rfl)) (by decide) (by decide) (star1 rfl) (starAll rfl)) pe_int (nomark _)) (pss_one (ps_ret pe_non)) pss_nil)
  (pss_cons (ps_set (i := 5) sc_pass_left.nd rfl (Or.inl rfl) (pe_ix (ixTK (K := K) rfl) (pe_ix (ixTK (K := K) rfl) (pv 4) pe_int (fun _ _ => rfl)) pe_int (fun _ _ => rfl)))
  (pss_cons (ps_expr (pe_bm PySem.F.plainAttrs_list PySem.F.slot_list_append PySem.F.type_list_append mt_append (pe_fldK (K := K) rfl (pv 0) rfl) (pa_cons (pv 5) pa_nil (star1 rfl))))
  (pss_one (ps_ret (pv 5))))))))), ?_⟩
  refine q_getG T.dc x rfl rfl hn fun u0 pl0 => ?_
  refine q_seqM (fun σ' H' => ∃ (done rest : List (Str × Bool)) (u : V) (c5 c6 c7 : Option V), σ' = [some (.ref A.q), some (.str n), some (optS g.holder), some (.int g.count), some u, c5, c6, c7] ∧ g.places = done ++ rest ∧ (∀ p ∈ done, p.2 = false) ∧ (∀ p t, rest = p :: t → p.2 = true) ∧ PlsV K H' u rest ∧ DrAt K T.C_Draft H' A { d with told := d.told ++ done.map fun p => e3 "passed" p.1 n } ∧ K4 A H H') ?tail ?go
  case go =>
    intro R hR
    refine s_while (fun k σ' H' => ∃ (done rest : List (Str × Bool)) (u : V) (c5 c6 c7 : Option V), k = rest.length ∧ σ' = [some (.ref A.q), some (.str n), some (optS g.holder), some (.int g.count), some u, c5, c6, c7] ∧ g.places = done ++ rest ∧ (∀ p ∈ done, p.2 = false) ∧ PlsV K H' u rest ∧ DrAt K T.C_Draft H' A { d with told := d.told ++ done.map fun p => e3 "passed" p.1 n } ∧ K4 A H H') g.places.length ⟨[], g.places, u0, none, none, none, rfl, rfl, rfl, (fun p hp => by cases hp), pl0, by simpa using x, K4.refl A H⟩ ?_
    intro k σ' H1 hW
    obtain ⟨done, rest, u, c5, c6, c7, rfl, rfl, hpl1, hdn, pl1, x1, k1⟩ := hW
    obtain ⟨pa, xs, rfl, st, pd⟩ := pl1
    have len := paired_len pd
    refine ⟨_, et_test (ev_I0 (ev_lenT (ev_var rfl) st) ev_c), fun hb H2 e2 => ?_, fun hb H2 e2 => ?_⟩
    · have hb : 0 < xs.length := by simpa using hb
      cases pd with
      | nil => simp at hb
      | @cons v p xs' rest' pv pd' =>
        refine ⟨_, fun σ2 H3 hN => ⟨rest'.length, Nat.lt_succ_self _, hN⟩, ?_⟩
        obtain ⟨t, rfl, stv⟩ := pv
        refine q_asgG ?_
        refine ⟨_, rfl, pa, _, 0, .ref t, rfl, rfl, ex_t e2 st, at_nat (i := 0) rfl, t, _, rfl, ex_t e2 stv, rfl, _, _, rfl, _, _, rfl, rfl, ?_⟩
        refine q_when (et_B (ev_var rfl)) (fun hs H3 e3 => ?_) (fun hs H3 e3 => ?_)
        · refine hR _ _ ⟨done, p :: rest', .ref pa, _, _, _, rfl, hpl1, hdn, (fun p' t' z => by cases z; exact hs), ⟨pa, _, rfl, ex_t (e2.trans e3) st, .cons ⟨t, rfl, ex_t (e2.trans e3) stv⟩ (paired_mono (fun _ _ z => z.st (ST.ex (e2.trans e3))) pd')⟩, x1.ex (e2.trans e3), k1.trans (K4.ex (e2.trans e3))⟩
        · have x3 := x1.ex (e2.trans e3)
          have dl : done.length ≤ 5000 := by
            have := congrArg List.length hpl1
            rw [List.length_append] at this
            omega
          refine q_tell (ds := [.str "passed", .str p.1, .str n]) T.dc x3 rfl (eu_tup (ea_cons ev_c (ea_cons (ev_var rfl) (ea_cons (ev_var rfl) ea_nil))) (by simp)) (.cons rfl (.cons rfl (.cons rfl .nil))) (by show (d.told ++ _).length < _; rw [List.length_append, List.length_map]; omega) fun H4 x4 k4 => ?_
          have s14 : ST K H1 H4 := (ST.ex (e2.trans e3)).trans (x3.sT k4)
          refine s_asgU (sl1 (i := 4) (xs := .ref t :: xs') rfl (s14 _ _ st) (by simp)) fun r H5 hr e5 h5 => ?_
          refine ⟨done ++ [p], rest', .ref r, _, _, _, rfl, rfl, by rw [hpl1]; simp, (fun q hq => ?_), ⟨r, xs', rfl, st_of h5, paired_mono (fun _ _ z => z.st (s14.trans (ST.ex e5))) pd'⟩, ?_, ((k1.trans (K4.ex (e2.trans e3))).trans k4).trans (K4.ex e5)⟩
          · rcases List.mem_append.mp hq with z | z
            · exact hdn q z
            · rw [List.mem_singleton.mp z]
              exact hs
          · have e : ({ d with told := d.told ++ (done ++ [p]).map fun p => NL.e3 "passed" p.1 n } : DS) = DS.tell { d with told := d.told ++ done.map fun p => NL.e3 "passed" p.1 n } (.tuple [.str "passed", .str p.1, .str n]) := by
              unfold DS.tell
              simp
            rw [e]
            exact x4.ex e5
    · have hb : xs = [] := by
        have : ¬ 0 < xs.length := by simpa using hb
        exact List.length_eq_zero_iff.mp (by omega)
      subst hb
      cases pd
      exact hR _ _ ⟨done, [], .ref pa, _, _, _, rfl, hpl1, hdn, (fun p t z => by cases z), ⟨pa, [], rfl, ex_t e2 st, .nil⟩, x1.ex e2, k1.trans (K4.ex e2)⟩
  case tail =>
    intro σ' H1 hM
    obtain ⟨done, rest, u, c5, c6, c7, rfl, hpl1, hdn, hrs, pl1, x1, k1⟩ := hM
    obtain ⟨tk, dp⟩ := take_left hdn hrs
    rw [← hpl1] at tk dp
    refine q_putG (g' := { g with places := rest }) T.dc x1 rfl rfl hn (eu_tup (ea_cons (ev_var rfl) (ea_cons (ev_var rfl) (ea_cons (ev_var rfl) ea_nil))) (by simp)) pl1 fun H2 x2 k2 => ?_
    have pl2 := pl1.st (x1.sT k2)
    have pe : (passLeft d n) = (match rest with
      | [] => (({ d with told := d.told ++ done.map fun p => e3 "passed" p.1 n } : DS).setG n { g with places := rest }, none)
      | p :: _ => ({ (({ d with told := d.told ++ done.map fun p => e3 "passed" p.1 n } : DS).setG n { g with places := rest }) with firsts := d.firsts ++ [p.1] }, some p.1)) := by
      unfold passLeft
      rw [hn]
      simp only [tk, dp]
      cases rest <;> rfl
    rw [pe] at q
    obtain ⟨pa, xs, rfl, st, pd⟩ := pl2
    cases pd with
    | nil =>
      refine q_when (b := true) (et_is (et_test (ev_eq (ev_lenT (ev_var rfl) st) ev_c rfl)) rfl) (fun _ H3 e3 => ?_) (fun z => by cases z)
      exact s_ret ev_c fun H4 e4 => q H4 (x2.ex (e3.trans e4)) ((k1.trans k2).trans (K4.ex (e3.trans e4)))
    | @cons v p xs' rest' pv pd' =>
      obtain ⟨t, rfl, stv⟩ := pv
      refine q_when (b := false) (et_is (et_test (ev_eq (ev_lenT (ev_var rfl) st) ev_c rfl)) (decide_eq_false fun z => by injection z with z; simp only [List.length_cons] at z; omega)) (fun z => by cases z) (fun _ H3 e3 => ?_)
      refine q_asg (v := .str p.1) (ev_ixT (ev_ixT (v := .ref t) (ev_var rfl) ev_c (ex_t e3 st) (at_nat (i := 0) rfl)) ev_c (ex_t e3 stv) rfl) fun H4 e4 => ?_
      refine q_first T.dc (x2.ex (e3.trans e4)) rfl rfl (by show d.firsts.length < _; omega) fun H5 x5 k5 => ?_
      exact s_ret (ev_var rfl) fun H6 e6 => q H6 (x5.ex e6) (((k1.trans k2).trans (K4.ex (e3.trans e4))).trans (k5.trans (K4.ex e6)))
theorem ok_hand_on (T : Tp w K mg) : FnOk P w K mg base CX0 1 T.f_hand_on T.d_hand_on ["draft", "group", "reason", "count"] (spHandOn K T.C_Draft) := by
  refine T.F_hand_on.ok sc_hand_on (fun vs H Q E h => ?_) (fun cdv A outer s H vs Q E hr h => ?_)
  · obtain ⟨A, d, n, why, c, g, p, rest, rfl, _⟩ := h
    rfl
  obtain ⟨A, d, n, why, c, g, p, rest, rfl, x, hn, hp, hl, q⟩ := h
  refine ⟨_, (pss_cons (ps_asg (pe_dget (hu_of hr) (pe_fldK (K := K) rfl (pv 0) rfl) (pv 1) (nosl fun _ _ => rfl)) (pg_tup rfl (pgs_cons (pg_name (i := 4) sc_hand_on.nd rfl (Or.inl rfl)) (pgs_cons (pg_name (i := 5) sc_hand_on.nd rfl (Or.inl rfl)) (pgs_cons (pg_name (i := 6) sc_hand_on.nd rfl (Or.inl rfl)) pgs_nil)))))
  (pss_cons (ps_asg (pe_ix (ixTK (K := K) rfl) (pv 6) pe_int (fun _ _ => rfl)) (pg_tup rfl (pgs_cons (pg_name (i := 7) sc_hand_on.nd rfl (Or.inl rfl)) (pgs_cons (pg_name (i := 8) sc_hand_on.nd rfl (Or.inl rfl)) pgs_nil))))
  (pss_cons (ps_dput (hu_of hr) (pe_fldK (K := K) rfl (pv 0) rfl) (pv 1) (pe_tup (pa_cons (pv 7) (pa_cons (pv 3) (pa_cons (pe_slice (slAK (K := K) rfl) (pv 6) (po_some pe_int) po_none) pa_nil (star1 rfl)) (star1 rfl)) (star1 rfl))) rfl)
  (pss_cons (ps_expr (pe_bm PySem.F.plainAttrs_list PySem.F.slot_list_append PySem.F.type_list_append mt_append (pe_fldK (K := K) rfl (pv 0) rfl) (pa_cons (pe_tup (pa_cons pe_str (pa_cons (pv 7) (pa_cons (pv 1) (pa_cons (pv 2) pa_nil (star1 rfl)) (star1 rfl)) (star1 rfl)) (star1 rfl))) pa_nil (star1 rfl))))
  (pss_one (ps_ret (pv 7))))))), ?_⟩
  refine q_getG T.dc x rfl rfl hn fun u pl => ?_
  rw [hp] at pl
  obtain ⟨pa, xs, rfl, st, pd⟩ := pl
  cases pd with
  | @cons v _ xs' _ pv pd' =>
    obtain ⟨t, rfl, stv⟩ := pv
    refine q_asgG ?_
    refine ⟨_, rfl, pa, _, 0, .ref t, rfl, rfl, st, at_nat (i := 0) rfl, t, _, rfl, stv, rfl, _, _, rfl, _, _, rfl, rfl, ?_⟩
    refine q_putGR (g' := ⟨some p.1, c, rest⟩) T.dc x rfl rfl hn (fun Q' q' => ?_) fun H1 x1 k1 => ?_
    · refine ⟨_, rfl, _, rfl, sl1 (i := 6) (xs := .ref t :: xs') rfl st (by simp) H (Ex.refl H) _ fun r H1 hr e1 h1 => ⟨(by show 3 ≤ sizeLine; decide), fun b hb => ?_⟩⟩
      have e2 := Ex.new (o := .tup [.str p.1, .int c, .ref r]) hb
      exact q' (.ref b) _ (e1.trans e2) ⟨b, .ref r, rfl, st_of upd_same, r, xs', rfl, st_of (e2 _ _ h1), paired_mono (fun _ _ z => z.st (ST.ex (e1.trans e2))) pd'⟩
    refine q_tell (ds := [.str "handed", .str p.1, .str n, .str why]) T.dc x1 rfl (eu_tup (ea_cons ev_c (ea_cons (ev_var rfl) (ea_cons (ev_var rfl) (ea_cons (ev_var rfl) ea_nil)))) (by simp)) (.cons rfl (.cons rfl (.cons rfl (.cons rfl .nil)))) (by show d.told.length < _; omega) fun H2 x2 k2 => ?_
    refine s_ret (ev_var rfl) fun H3 e3 => q H3 ?_ ((k1.trans k2).trans (K4.ex e3))
    unfold handOn
    rw [hn]
    simp only [hp]
    exact x2.ex e3
theorem ok_hand_near (T : Tp w K mg) : FnOk P w K mg base CX0 2 T.f_hand_near T.d_hand_near ["draft", "group", "around"] (spNear K T.C_Draft) := by
  refine T.F_hand_near.ok sc_hand_near (fun vs H Q E h => ?_) (fun cdv A outer s H vs Q E hr h => ?_)
  · obtain ⟨A, d, n, ar, g, p, rest, rfl, _⟩ := h
    rfl
  obtain ⟨A, d, n, ar, g, p, rest, rfl, x, hn, hp, hl, dn, q⟩ := h
  refine ⟨_, (pss_cons (ps_asg (pe_dget (hu_of hr) (pe_fldK (K := K) rfl (pv 0) rfl) (pv 1) (nosl fun _ _ => rfl)) (pg_tup rfl (pgs_cons (pg_name (i := 3) sc_hand_near.nd rfl (Or.inl rfl)) (pgs_cons (pg_name (i := 4) sc_hand_near.nd rfl (Or.inl rfl)) (pgs_cons (pg_name (i := 5) sc_hand_near.nd rfl (Or.inl rfl)) pgs_nil)))))
  (pss_cons (ps_set (i := 6) sc_hand_near.nd rfl (Or.inl rfl) (pe_call (ok_hand_on T) (hr.mono (by decide)) rfl T.m_hand_on T.F_hand_on.kp (b_hand_on T) .nil pass0 (pa_cons (pv 0) (pa_cons (pv 1) (pa_cons pe_str (pa_cons (pe_ifExp (pt_cmp (pc_isN (pv 2))) (pv 4) (pe_op op_add (pv 4) pe_int)) pa_nil (star1 rfl)) (star1 rfl)) (star1 rfl)) (star1 rfl)) (by decide) (star1 rfl) (starAll rfl)))
  (pss_one (ps_expr (pe_call (ok_give_lock T) (hr.mono (by decide)) rfl T.m_give_lock T.F_give_lock.kp (b_give_lock T) .nil pass0 (pa_cons (pv 0) (pa_cons (pv 6) pa_nil (star1 rfl)) (star1 rfl)) (by decide) (star1 rfl) (starAll rfl)))))), ?_⟩
  refine q_getG T.dc x rfl rfl hn fun u pl => ?_
  refine q_asgP ?_
  have cn : countOf d n = g.count := by
    unfold countOf
    rw [hn]
  have hnear : handNear d n ar.isNone = giveLock FU (handOn d n "near" (if ar.isNone then g.count else g.count + 1)).1 p.1 := by
    unfold handNear
    simp only [cn]
    have : ∀ c, (handOn d n "near" c).2 = p.1 := fun c => by
      unfold handOn
      rw [hn]
      simp only [hp]
    rw [this]
  have hc : Ev (tIf (tTest (tIsN (tVar 2))) (tVar 4) (tOp (rI0 fun i j => .int (i + j)) (tVar 4) (tC (.int 1)))) [some (.ref A.q), some (.str n), some (optS ar), some (optS g.holder), some (.int g.count), some u, none] H (.int (if ar.isNone then g.count else g.count + 1)) := by
    refine ev_if (et_is (et_test (ev_isN (ev_var rfl))) (b := ar.isNone) (by cases ar <;> rfl)) (fun h => ?_) (fun h => ?_)
    · rw [h]
      exact ev_var rfl
    · rw [h]
      exact ev_I0 (ev_var rfl) ev_c
  refine ⟨_, rfl, _, rfl, hc H (Ex.refl H) _ fun H1 e1 => ⟨A, d, n, "near", _, g, p, rest, rfl, x.ex e1, hn, hp, by omega, fun H2 x2 k2 => ?_⟩⟩
  have hl2 : (handOn d n "near" (if ar.isNone then g.count else g.count + 1)).1.told.length ≤ 80000 := by
    unfold handOn
    rw [hn]
    simp only [hp]
    rw [tell_len]
    show d.told.length + 1 ≤ _
    omega
  refine s_dropP ?_
  refine ⟨_, rfl, _, rfl, A, _, p.1, rfl, x2, dn _, hl2, fun H3 x3 k3 => ?_⟩
  rw [hnear] at q
  exact q H3 x3 (((K4.ex e1).trans k2).trans k3)
theorem ok_hand_over (T : Tp w K mg) : FnOk P w K mg base CX0 2 T.f_hand_over T.d_hand_over ["draft", "group", "around"] (spOver K T.C_Draft) := by
  refine T.F_hand_over.ok sc_hand_over (fun vs H Q E h => ?_) (fun cdv A outer s H vs Q E hr h => ?_)
  · obtain ⟨A, d, n, ar, g, g2, p, rest, rfl, _⟩ := h
    rfl
  obtain ⟨A, d, n, ar, g, g2, p, rest, rfl, x, hn, hp, hne, hn2, hpl, hl, q⟩ := h
  refine ⟨_, (pss_cons (ps_expr (pe_call (ok_hand_on T) (hr.mono (by decide)) rfl T.m_hand_on T.F_hand_on.kp (b_hand_on T) .nil pass0 (pa_cons (pv 0) (pa_cons (pv 1) (pa_cons pe_str (pa_cons pe_int pa_nil (star1 rfl)) (star1 rfl)) (star1 rfl)) (star1 rfl)) (by decide) (star1 rfl) (starAll rfl)))
  (pss_one (ps_expr (pe_call (ok_add_place T) (hr.mono (by decide)) rfl T.m_add_place T.F_add_place.kp (b_add_place T) .nil pass0 (pa_cons (pv 0) (pa_cons (pv 1) (pa_cons (pv 2) pa_nil (star1 rfl)) (star1 rfl)) (star1 rfl)) (by decide) (star1 rfl) (starAll rfl))))), ?_⟩
  refine q_dropP ?_
  refine ⟨_, rfl, _, rfl, A, d, n, "over", 0, g, p, rest, rfl, x, hn, hp, hl, fun H1 x1 k1 => ?_⟩
  have hg : getN (handOn d n "over" 0).1.gs ar = some g2 := by
    unfold handOn
    rw [hn]
    simp only [hp]
    show getN (setN d.gs n _) ar = _
    rw [getN_other (Ne.symm hne)]
    exact hn2
  refine s_dropP ?_
  exact ⟨_, rfl, _, rfl, _, rfl, A, _, n, ar, g2, rfl, x1, hg, hpl, fun H2 x2 k2 => q H2 x2 (k1.trans k2)⟩
theorem ok_make_bare (T : Tp w K mg) : FnOk P w K mg base CX0 1 T.f_make_bare T.d_make_bare ["draft", "group"] (spBare K T.C_Draft) := by
  refine T.F_make_bare.ok sc_make_bare (fun vs H Q E h => ?_) (fun cdv A outer s H vs Q E hr h => ?_)
  · obtain ⟨A, d, n, g, rfl, _⟩ := h
    rfl
  obtain ⟨A, d, n, g, rfl, x, hn, hl, q⟩ := h
  refine ⟨_, (pss_cons (ps_dput (hu_of hr) (pe_fldK (K := K) rfl (pv 0) rfl) (pv 1) (pe_tup (pa_cons pe_non (pa_cons pe_int (pa_cons (pe_tup pa_nil) pa_nil (star1 rfl)) (star1 rfl)) (star1 rfl))) rfl)
  (pss_one (ps_expr (pe_bm PySem.F.plainAttrs_list PySem.F.slot_list_append PySem.F.type_list_append mt_append (pe_fldK (K := K) rfl (pv 0) rfl) (pa_cons (pe_tup (pa_cons pe_str (pa_cons (pv 1) pa_nil (star1 rfl)) (star1 rfl))) pa_nil (star1 rfl)))))), ?_⟩
  refine q_putGR (g' := ⟨none, 0, []⟩) T.dc x rfl rfl hn (fun Q' q' => ?_) fun H1 x1 k1 => ?_
  · refine ⟨(by show 0 ≤ sizeLine; decide), fun p hp => ⟨(by show 3 ≤ sizeLine; decide), fun r hr' => ?_⟩⟩
    have e1 := Ex.new (o := .tup []) hp
    have e2 := Ex.new (o := .tup [.non, .int 0, .ref p]) hr'
    exact q' (.ref r) _ (e1.trans e2) ⟨r, .ref p, rfl, st_of upd_same, p, [], rfl, st_of (e2 _ _ upd_same), .nil⟩
  exact s_tell (ds := [.str "bare", .str n]) T.dc x1 rfl (eu_tup (ea_cons ev_c (ea_cons (ev_var rfl) ea_nil)) (by simp)) (.cons rfl (.cons rfl .nil)) (by show d.told.length < _; omega) fun H2 x2 k2 => q H2 x2 (k1.trans k2)
theorem ok_is_below (T : Tp w K mg) : FnOk P w K mg base CX0 1 T.f_is_below T.d_is_below ["draft", "group"] (spBelow K T.C_Draft) := by
  refine T.F_is_below.ok sc_is_below (fun vs H Q E h => ?_) (fun cdv A outer s H vs Q E hr h => ?_)
  · obtain ⟨A, d, s, n, g, b, rfl, _⟩ := h
    rfl
  obtain ⟨A, d, s, n, g, b, rfl, x, t, hn, hb, q⟩ := h
  refine ⟨_, (pss_cons (ps_asg (pe_dget (hu_of hr) (pe_fldK (K := K) rfl (pv 0) rfl) (pv 1) (nosl fun _ _ => rfl)) (pg_tup rfl (pgs_cons (pg_name (i := 2) sc_is_below.nd rfl (Or.inl rfl)) (pgs_cons (pg_name (i := 3) sc_is_below.nd rfl (Or.inl rfl)) (pgs_cons (pg_name (i := 4) sc_is_below.nd rfl (Or.inl rfl)) pgs_nil)))))
  (pss_one (ps_ret (pe_cmpR op_lt (pv 3) (pe_dget (hu_of hr) (pe_fldK (K := K) rfl (pv 0) rfl) (pv 1) (nosl fun _ _ => rfl)) (nomark _))))), ?_⟩
  refine q_getG T.dc x rfl rfl hn fun u pl => ?_
  have bd : Ev (tDGet (tFld K (tVar 0) "bounds") (tVar 1)) [some (.ref A.q), some (.str n), some (optS g.holder), some (.int g.count), some u] H (.int b) := fun H1 e1 Q' q' => by
    obtain ⟨v, dg, rfl⟩ := t.bo.get hb
    have dg1 : DGet H1 A.bo (.str n) (some (.int b)) := by
      obtain ⟨kvs, k1, k2, _⟩ := t.bo
      rcases kr_val n k2 with ⟨_, z⟩ | ⟨v, y, a, z, r⟩
      · rw [hb] at z
        cases z
      · rw [hb] at z
        cases z
        cases r
        rw [← a]
        exact DGet.k (k := .inr n) (e1 _ _ k1)
    exact ⟨_, rfl, A.q, _, A.dx, A.fields, _, rfl, (x.ex e1).ob, T.dc.cl, T.dc.bo, fld_bo, _, rfl, A.bo, _, rfl, dg1, q' H1 (Ex.refl H1)⟩
  refine s_ret (ev_is (ev_I0 (ev_var rfl) bd) (w := .bl (isBelow s d n)) ?_) q
  unfold isBelow countOf
  rw [hb, hn]
theorem ok_places_without (T : Tp w K mg) : FnOk P w K mg base CX0 1 T.f_places_without T.d_places_without ["places", "gone"] (spWithout K) := by
  refine T.F_places_without.ok sc_places_without (fun vs H Q E h => ?_) (fun cdv A outer s H vs Q E hr h => ?_)
  · obtain ⟨u, ps, m, rfl, _⟩ := h
    rfl
  obtain ⟨u, ps, m, rfl, pl, hl, q⟩ := h
  refine ⟨_, (pss_one (ps_ret (pe_callTy (tupleK (K := K) rfl) rfl T.z_tuple (by decide +kernel) (pa_cons (pe_lc (own := [("member", 2), ("standing", 3)]) (g := gTup K 2 (gCons (gName 2) (gCons (gName 3) gNil))) (tt := tYes) rfl sc_places_without.nd (piTK (K := K) rfl (pv 0)) (blkOk_by (N := N_places_without) (sc := defScope s_places_without) (by decide +kernel)) (fun _ _ _ _ _ => (pg_tup rfl (pgs_cons (pg_name (i := 2) sc_places_without.nd rfl (Or.inl rfl)) (pgs_cons (pg_name (i := 3) sc_places_without.nd rfl (Or.inl rfl)) pgs_nil)))) (fun _ _ _ _ _ => pts_nil) (fun _ _ _ _ _ => (pe_tup (pa_cons (pv 2) (pa_cons (pe_and (pv 3) (pe_one (pe_cmpR op_ne (pv 2) (pv 1) (nomark _)))) pa_nil (star1 rfl)) (star1 rfl))))) pa_nil (star1 rfl)) (by decide) (by decide) (star1 rfl) (starAll rfl)))), ?_⟩
  obtain ⟨pa, xs, rfl, st, pd⟩ := pl
  have len := paired_len pd
  refine s_retP ?_
  refine ⟨_, rfl, pa, rfl, ⟨xs, st⟩, fun D hD => ?_⟩
  refine lc_tup (K := K) (a := pa) (xs := xs) (fun i H' => Ex H H' ∧ ∃ ys, H' D = some (.lst ys) ∧ Paired (PlV K H') ys (without (ps.take i) m)) ⟨Ex.new hD, [], upd_same, .nil⟩ (fun i H' _ hP => ex_t hP.1 st) ?_ ?_
  · intro i v H1 hv hP
    obtain ⟨e1, ys, hy, py⟩ := hP
    obtain ⟨p, hp, t, rfl, stv⟩ := NL.paired_get pd hv
    have ly := paired_len py
    have ly2 : (without (ps.take i) m).length ≤ 5000 := by
      unfold NL.without
      rw [List.length_map, List.length_take]
      omega
    have ne : Ev (tOp rNe (tVar 2) (tVar 1)) [some (.ref pa), some (.str m), some (.str p.1), some (.bl p.2)] H1 (.bl (!decide (p.1 = m))) := ev_is (ev_ne (ev_var rfl) (ev_var rfl) rfl) (by
      congr 2
      exact decide_eq_decide.mpr ⟨fun z => V.str.inj z, fun z => by rw [z]⟩)
    refine ⟨t, _, rfl, ex_t e1 stv, rfl, _, _, rfl, _, _, rfl, rfl, rfl, tYesQ ?_⟩
    refine ⟨_, rfl, ?_⟩
    refine (ev_andV (a := p.2) (ev_var rfl) fun _ => ne) H1 (Ex.refl H1) _ fun H2 e2 => ⟨(by show 2 ≤ sizeLine; decide), fun r hr' => ?_⟩
    have e3 := Ex.new (o := .tup [.str p.1, .bl (p.2 && !decide (p.1 = m))]) hr'
    have hy3 := e3 _ _ (e2 _ _ hy)
    refine ⟨ys, hy3, sz_lt (by omega), Ex.mut ((e1.trans e2).trans e3) hD, ys ++ [.ref r], upd_same, ?_⟩
    have st4 : ST K (upd H2 r (.tup [.str p.1, .bl (p.2 && !decide (p.1 = m))])) (upd (upd H2 r (.tup [.str p.1, .bl (p.2 && !decide (p.1 = m))])) D (.lst (ys ++ [.ref r]))) := ST.lst hy3
    have tk : without (ps.take (i + 1)) m = without (ps.take i) m ++ [(p.1, p.2 && !decide (p.1 = m))] := by
      unfold NL.without
      rw [List.take_succ, hp, List.map_append]
      rfl
    rw [tk]
    exact paired_app (paired_mono (fun _ _ z => (z.st (ST.ex (e2.trans e3))).st st4) py) (.cons ⟨r, rfl, st4 _ _ (st_of upd_same)⟩ .nil)
  · intro H1 hP
    obtain ⟨e1, ys, hy, py⟩ := hP
    rw [len, List.take_length] at py
    refine ⟨D, ys, rfl, Or.inl ⟨sq_of hy, fun r hr' => ?_⟩⟩
    have e2 := Ex.new (o := .tup ys) hr'
    exact q (.ref r) _ (e1.trans e2) ⟨r, ys, rfl, st_of upd_same, paired_mono (fun _ _ z => z.st (ST.ex e2)) py⟩
end
/-! ### letting go, leaving -/
def spLetGo (K : PySem.W.Frag) (C : Addr) : Sp := fun vs H Q _ => ∃ (A : DrA) (d : DS) (s : Sta) (hand : Str) (r : HR) (p : List Str), vs = [.ref A.q, .str hand] ∧ DrAt K C H A d ∧ StAt K H A s ∧ getN d.hs hand = some r ∧ getN s.paths hand = some p ∧ p ≠ [] ∧ p.length ≤ 100 ∧
  letOk s ((d.setH hand ⟨r.row + 1, 0, .out, none⟩).tell (e2 "let" hand)) p ∧ d.told.length ≤ 59000 ∧ ∀ H', DrAt K C H' A (letGo s d hand).1 → K4 A H H' → Q (.bl (letGo s d hand).2) H'
def spLeaveR (K : PySem.W.Frag) (C : Addr) (k : Nat) : Sp := fun vs H Q _ => ∃ (A : DrA) (d : DS) (s : Sta) (m : Str) (p : List Str), vs = [.ref A.q, .str m] ∧ DrAt K C H A d ∧ StAt K H A s ∧ p.length ≤ k ∧ leaveOk s d m p ∧ ∀ H', DrAt K C H' A (leaveL d m p).1 → K4 A H H' → Q (.bl (leaveL d m p).2) H'
def spLeave (K : PySem.W.Frag) (C : Addr) : Sp := fun vs H Q _ => ∃ (A : DrA) (d : DS) (s : Sta) (hand : Str) (r : HR) (p : List Str), vs = [.ref A.q, .str hand] ∧ DrAt K C H A d ∧ StAt K H A s ∧ getN d.hs hand = some r ∧ getN s.paths hand = some p ∧ p.length ≤ 12 ∧
  leaveOk s (d.setH hand ⟨r.row + 1, 0, .out, none⟩) hand p ∧ ∀ H', DrAt K C H' A (leave s d hand).1 → K4 A H H' → Q (.bl (leave s d hand).2) H'
section
variable {P : Program} {w : World} {K : PySem.W.Frag} {mg : Str → Option Value} {base : Heap}
theorem ok_let_go (T : Tp w K mg) : FnOk P w K mg base CX0 3 T.f_let_go T.d_let_go ["draft", "hand"] (spLetGo K T.C_Draft) := by
  refine T.F_let_go.ok sc_let_go (fun vs H Q E h => ?_) (fun cdv A outer s H vs Q E hr h => ?_)
  · obtain ⟨A, d, s, hand, r, p, rfl, _⟩ := h
    rfl
  obtain ⟨A, d, s, hand, r, p, rfl, x, t, hn, hp, hp0, hpl, ok, hl, q⟩ := h
  refine ⟨_, (pss_cons (ps_asg (pe_dget (hu_of hr) (pe_fldK (K := K) rfl (pv 0) rfl) (pv 1) (nosl fun _ _ => rfl)) (pg_tup rfl (pgs_cons (pg_name (i := 2) sc_let_go.nd rfl (Or.inl rfl)) (pgs_cons (pg_name (i := 3) sc_let_go.nd rfl (Or.inl rfl)) (pgs_cons (pg_name (i := 4) sc_let_go.nd rfl (Or.inl rfl)) (pgs_cons (pg_name (i := 5) sc_let_go.nd rfl (Or.inl rfl)) pgs_nil))))))
  (pss_cons (ps_dput (hu_of hr) (pe_fldK (K := K) rfl (pv 0) rfl) (pv 1) (pe_tup (pa_cons (pe_op op_add (pv 2) pe_int) (pa_cons pe_int (pa_cons pe_str (pa_cons pe_non pa_nil (star1 rfl)) (star1 rfl)) (star1 rfl)) (star1 rfl))) rfl)
  (pss_cons (ps_expr (pe_bm PySem.F.plainAttrs_list PySem.F.slot_list_append PySem.F.type_list_append mt_append (pe_fldK (K := K) rfl (pv 0) rfl) (pa_cons (pe_tup (pa_cons pe_str (pa_cons (pv 1) pa_nil (star1 rfl)) (star1 rfl))) pa_nil (star1 rfl))))
  (pss_cons (ps_set (i := 6) sc_let_go.nd rfl (Or.inl rfl) (pe_dget (hu_of hr) (pe_fldK (K := K) rfl (pv 0) rfl) (pv 1) (nosl fun _ _ => rfl)))
  (pss_cons (ps_set (i := 7) sc_let_go.nd rfl (Or.inl rfl) (pe_op (catAK (K := K) rfl) (pe_slice (slAK (K := K) rfl) (pv 6) (po_some pe_int) po_none) (pe_tup (pa_cons pe_non pa_nil (star1 rfl)))))
  (pss_cons (ps_for PassesOwn.never rfl (RZ.pi_zipA rfl T.z_zip (pa_cons (pv 6) (pa_cons (pv 7) pa_nil (star1 rfl)) (star1 rfl))) (pg_tup rfl (pgs_cons (pg_name (i := 8) sc_let_go.nd rfl (Or.inl rfl)) (pgs_cons (pg_name (i := 9) sc_let_go.nd rfl (Or.inl rfl)) pgs_nil))) (pss_cons (ps_set (i := 10) sc_let_go.nd rfl (Or.inl rfl) (pe_call (ok_pass_left T) (hr.mono (by decide)) rfl T.m_pass_left T.F_pass_left.kp (b_pass_left T) .nil pass0 (pa_cons (pv 0) (pa_cons (pv 8) pa_nil (star1 rfl)) (star1 rfl)) (by decide) (star1 rfl) (starAll rfl)))
  (pss_one (ps_if (pt_cmp (pc_isN (pv 10))) (pss_one (ps_expr (pe_call (ok_make_bare T) (hr.mono (by decide)) rfl T.m_make_bare T.F_make_bare.kp (b_make_bare T) .nil pass0 (pa_cons (pv 0) (pa_cons (pv 8) pa_nil (star1 rfl)) (star1 rfl)) (by decide) (star1 rfl) (starAll rfl)))) (pss_one (ps_if (pt_val (pe_call (ok_is_loose T) (hr.mono (by decide)) rfl T.m_is_loose T.F_is_loose.kp (b_is_loose T) .nil pass0 (pa_cons (pv 0) (pa_cons (pv 10) pa_nil (star1 rfl)) (star1 rfl)) (by decide) (star1 rfl) (starAll rfl))) (pss_one (ps_ret pe_bl)) (pss_one (ps_if (PW.pt (pw_or (pt_cmp (pc_isN (pv 9))) (pw_or1 (pt_val (pe_call (ok_is_below T) (hr.mono (by decide)) rfl T.m_is_below T.F_is_below.kp (b_is_below T) .nil pass0 (pa_cons (pv 0) (pa_cons (pv 8) pa_nil (star1 rfl)) (star1 rfl)) (by decide) (star1 rfl) (starAll rfl)))))) (pss_cons (ps_expr (pe_call (ok_hand_near T) (hr.mono (by decide)) rfl T.m_hand_near T.F_hand_near.kp (b_hand_near T) .nil pass0 (pa_cons (pv 0) (pa_cons (pv 8) (pa_cons (pv 9) pa_nil (star1 rfl)) (star1 rfl)) (star1 rfl)) (by decide) (star1 rfl) (starAll rfl)))
  (pss_one (ps_ret pe_bl))) (pss_one (ps_expr (pe_call (ok_hand_over T) (hr.mono (by decide)) rfl T.m_hand_over T.F_hand_over.kp (b_hand_over T) .nil pass0 (pa_cons (pv 0) (pa_cons (pv 8) (pa_cons (pv 9) pa_nil (star1 rfl)) (star1 rfl)) (star1 rfl)) (by decide) (star1 rfl) (starAll rfl))))))))))))
  (pss_one (ps_ret pe_bl)))))))), ?_⟩
  refine q_getH T.dc x rfl rfl hn ?_
  refine q_putH (r' := ⟨r.row + 1, 0, .out, none⟩) T.dc x rfl rfl hn (eu_tup (ea_cons (ev_I0 (ev_var rfl) ev_c) (ea_cons ev_c (ea_cons ev_c (ea_cons ev_c ea_nil)))) (by simp)) fun H1 x1 k1 => ?_
  refine q_tell (ds := [.str "let", .str hand]) T.dc x1 rfl (eu_tup (ea_cons ev_c (ea_cons (ev_var rfl) ea_nil)) (by simp)) (.cons rfl (.cons rfl .nil)) (by show d.told.length < _; omega) fun H2 x2 k2 => ?_
  have k02 := k1.trans k2
  have t2 := t.k4 x k02
  refine q_path T.dc x2 t2 rfl rfl hp fun pa st => ?_
  have eq0 : letGo s d hand = letGoL s ((d.setH hand ⟨r.row + 1, 0, .out, none⟩).tell (e2 "let" hand)) p := by
    unfold NL.letGo
    rw [hn, hp]
  rw [eq0] at q
  generalize (d.setH hand ⟨r.row + 1, 0, .out, none⟩).tell (e2 "let" hand) = d0 at x2 ok q
  -- arounds = path[1:] + (None,)
  have pne : p.map V.str ≠ [] := fun z => hp0 (List.map_eq_nil_iff.mp z)
  refine q_asgR (fun v H' => Ex H2 H' ∧ ∃ b, v = .ref b ∧ SqT K H' b ((p.drop 1).map V.str ++ [.non])) (fun R hR => ?_) fun v H3 hM => ?_
  · refine sl1 (i := 6) (xs := p.map V.str) rfl st pne H2 (Ex.refl H2) _ fun a H3 ha e3 h3 => ⟨(by show 1 ≤ sizeLine; decide), fun b hb => ?_⟩
    have e4 := Ex.new (o := .tup [.non]) hb
    rw [← List.map_drop] at h3
    refine ⟨a, b, (p.drop 1).map V.str, [.non], rfl, rfl, st_of (e4 _ _ h3), st_of upd_same, sz_of (by simp; omega), fun z => ?_, fun _ z => (by cases z), fun _ _ c hc => ?_⟩
    · exact hR _ _ ⟨e3.trans e4, b, rfl, by rw [z]; exact st_of upd_same⟩
    · exact hR _ _ ⟨(e3.trans e4).trans (Ex.new hc), c, rfl, st_of upd_same⟩
  obtain ⟨e3, b, rfl, stb⟩ := hM
  have x3 := x2.ex e3
  have st3 := ex_t e3 st
  have t3 := t2.k4 x2 (K4.ex e3)
  have k03 : K4 A H H3 := k02.trans (K4.ex e3)
  clear t2 t st
  refine q_forZ (K := K) (a := pa) (b := b) (xs := p.map V.str) (ys := (p.drop 1).map V.str ++ [.non]) rfl rfl st3 stb (by rw [List.length_append, List.length_map, List.length_map, List.length_drop, List.length_singleton]; have : p.length ≠ 0 := fun z => hp0 (List.length_eq_zero_iff.mp z); omega)
    (fun i σ' H' => ∃ d' c8 c9 c10, σ' = [some (.ref A.q), some (.str hand), some (.int r.row), some (.int r.last), some (.str r.how.str), some (optI r.looks), some (.ref pa), some (.ref b), c8, c9, c10] ∧ DrAt K T.C_Draft H' A d' ∧ K4 A H3 H' ∧ letOk s d' (p.drop i) ∧ letGoL s d' (p.drop i) = letGoL s d0 p) ⟨d0, _, _, _, rfl, x3, K4.refl A H3, ok, rfl⟩ ?_ ?_ ?_
  · intro i σ' H' hP
    obtain ⟨d', c8, c9, c10, rfl, x', k', _⟩ := hP
    exact ⟨x3.sT k' _ _ st3, x3.sT k' _ _ stb⟩
  · intro i vx vy Tn σ' H4 hvx hvy hP hTn
    obtain ⟨d', c8, c9, c10, rfl, x4, k4, ok4, eq4⟩ := hP
    rw [List.getElem?_map] at hvx
    cases hg : p[i]? with
    | none =>
      rw [hg] at hvx
      cases hvx
    | some g =>
      rw [hg] at hvx
      cases hvx
      have hi := (List.getElem?_eq_some_iff.mp hg).1
      obtain ⟨ar, hvy', hdr⟩ : ∃ ar : Option Str, vy = optS ar ∧ (p.drop (i + 1) = match ar with | none => [] | some a => a :: p.drop (i + 2)) := by
        by_cases hl2 : i + 1 < p.length
        · have e1 : ((p.drop 1).map V.str ++ [V.non])[i]? = some (.str p[i + 1]) := by
            rw [List.getElem?_append_left (by rw [List.length_map, List.length_drop]; omega), List.getElem?_map, List.getElem?_drop]
            have : 1 + i = i + 1 := by omega
            rw [this, List.getElem?_eq_getElem hl2]
            rfl
          rw [e1] at hvy
          cases hvy
          exact ⟨some p[i + 1], rfl, List.drop_eq_getElem_cons hl2⟩
        · have e1 : ((p.drop 1).map V.str ++ [V.non])[i]? = some .non := by
            rw [List.getElem?_append_right (by rw [List.length_map, List.length_drop]; omega), List.length_map, List.length_drop]
            have : i - (p.length - 1) = 0 := by omega
            rw [this]
            rfl
          rw [e1] at hvy
          cases hvy
          exact ⟨none, rfl, List.drop_eq_nil_of_le (by omega)⟩
      subst hvy'
      rw [drop_at hg] at ok4 eq4
      obtain ⟨gr, bd, hgr, hbd, hgl, htl, hfl, okm⟩ := ok4
      have e5 := Ex.new (o := .tup [.str g, optS ar]) hTn
      have x5 := x4.ex e5
      have k35 := k4.trans (K4.ex e5)
      refine ⟨Tn, _, rfl, st_of upd_same, rfl, _, _, rfl, _, _, rfl, rfl, ?_⟩
      generalize upd H4 Tn (.tup [.str g, optS ar]) = H5 at e5 x5 k35 ⊢
      refine q_asgP ?_
      refine ⟨_, rfl, _, rfl, A, d', g, gr, rfl, x5, hgr, hgl, by omega, by omega, fun H6 x6 k6 => ?_⟩
      obtain ⟨pf1, pf2, pf3, ⟨g1, pg1, pg2, pg3, pg4, pg5⟩, pf5⟩ := pass_facts hgr
      have k36 := k35.trans k6
      have t6 := t3.k4 x3 k36
      simp only [letGoL] at eq4
      generalize hps : passLeft d' g = pr at x6 pf1 pf2 pf3 pg1 pg5 pf5 okm eq4
      obtain ⟨d1, f⟩ := pr
      cases f with
      | none =>
        dsimp only at okm eq4 pf1 pf2 pf3 pg1 pf5 x6
        refine s_if (b := true) (et_is (et_test (ev_isN (ev_var rfl))) rfl) (fun _ H7 e7 => ?_) (fun z => by cases z)
        refine s_dropP ?_
        refine ⟨_, rfl, _, rfl, A, d1, g, g1, rfl, x6.ex e7, pg1, by omega, fun H8 x8 k8 => ?_⟩
        exact ⟨_, _, _, _, rfl, x8, (k36.trans (K4.ex e7)).trans k8, okm, eq4⟩
      | some m =>
        obtain ⟨bb, rest, hpl1⟩ := pg5 m rfl
        refine s_if (b := false) (et_is (et_test (ev_isN (ev_var rfl))) rfl) (fun z => by cases z) (fun _ H7 e7 => ?_)
        have x7 := x6.ex e7
        have k37 := k36.trans (K4.ex e7)
        dsimp only at okm eq4 pf1 pf2 pf3 pg1 pf5 x7
        refine s_if (et_B (ev_call (ea_cons (ev_var rfl) (ea_cons (ev_var rfl) ea_nil)) fun H8 e8 Q' q' E' => ⟨A, d1, m, rfl, x7.ex e8, q'⟩)) (fun hb H8 e8 => ?_) (fun hb H8 e8 => ?_)
        · rw [hb, if_pos rfl] at eq4
          refine s_ret ev_c fun H9 e9 => ?_
          rw [← eq4] at q
          exact q H9 (x7.ex (e8.trans e9)) ((k03.trans k37).trans (K4.ex (e8.trans e9)))
        have okm := okm hb
        rw [hb, if_neg (by decide)] at eq4
        have x8 := x7.ex e8
        have k38 := k37.trans (K4.ex e8)
        have t8 := t3.k4 x3 k38
        refine s_if (et_or (et_test (ev_isN (ev_var rfl))) fun _ => et_B (ev_call (ea_cons (ev_var rfl) (ea_cons (ev_var rfl) ea_nil)) fun H9 e9 Q' q' E' => ⟨A, d1, s, g, g1, bd, rfl, x8.ex e9, t8.k4 x8 (K4.ex e9), pg1, hbd, q'⟩)) (fun hb2 H9 e9 => ?_) (fun hb2 H9 e9 => ?_)
        · have nr : letGoL s d0 p = (handNear d1 g ar.isNone, true) ∧ ∀ c, downOk FU (handOn d1 g "near" c).1 m := by
            have hb4 : ((p.drop (i + 1)).isEmpty || isBelow s d1 g) = true ∧ (p.drop (i + 1)).isEmpty = ar.isNone := by
              rw [hdr]
              cases ar with
              | none => exact ⟨rfl, rfl⟩
              | some a =>
                have hb3 : isBelow s d1 g = true := by simpa [optS] using hb2
                rw [hb3]
                exact ⟨rfl, rfl⟩
            rw [if_pos hb4.1] at eq4 okm
            rw [hb4.2] at eq4
            exact ⟨eq4.symm, okm⟩
          refine q_dropP ?_
          refine ⟨_, rfl, _, rfl, _, rfl, A, d1, g, ar, g1, (m, bb), rest, rfl, x8.ex e9, pg1, hpl1, by omega, nr.2, fun H10 x10 k10 => ?_⟩
          refine s_ret ev_c fun H11 e11 => ?_
          rw [nr.1] at q
          exact q H11 (x10.ex e11) (((k03.trans k38).trans (K4.ex e9)).trans (k10.trans (K4.ex e11)))
        · obtain ⟨a, rfl⟩ : ∃ a, ar = some a := by
            cases ar with
            | none => simp [optS] at hb2
            | some a => exact ⟨a, rfl⟩
          have hb3 : isBelow s d1 g = false := by simpa [optS] using hb2
          have hb4 : ¬ ((p.drop (i + 1)).isEmpty || isBelow s d1 g) = true := by
            rw [hdr, hb3]
            simp
          have hd4 : (p.drop (i + 1)).headD g = a := by rw [hdr]; rfl
          rw [if_neg hb4, hd4] at eq4 okm
          obtain ⟨hne, ⟨g2, hg2, hg2l⟩, okn⟩ := okm
          refine s_dropP ?_
          refine ⟨_, rfl, _, rfl, _, rfl, A, d1, g, a, g1, g2, (m, bb), rest, rfl, x8.ex e9, pg1, hpl1, hne, hg2, hg2l, by omega, fun H10 x10 k10 => ?_⟩
          exact ⟨_, _, _, _, rfl, x10, (k38.trans (K4.ex e9)).trans k10, okn, eq4⟩
  · intro σ' H4 hP
    obtain ⟨d', c8, c9, c10, rfl, x4, k4, ok4, eq4⟩ := hP
    rw [List.length_map, List.drop_length] at eq4
    refine s_ret ev_c fun H5 e5 => ?_
    rw [← eq4] at q
    exact q H5 (x4.ex e5) ((k03.trans k4).trans (K4.ex e5))
theorem lr_step (T : Tp w K mg) {k : Nat} {spR : Sp} (ih : FnOk P w K mg base CX0 (k + 1) T.f_leave_row T.d_leave_row ["draft", "member"] spR) (hR : ∀ j, k = j + 1 → spR = spLeaveR K T.C_Draft j) : FnOk P w K mg base CX0 (k + 2) T.f_leave_row T.d_leave_row ["draft", "member"] (spLeaveR K T.C_Draft k) := by
  refine T.F_leave_row.ok sc_leave_row (fun vs H Q E h => ?_) (fun cdv A outer s H vs Q E hr h => ?_)
  · obtain ⟨A, d, s, m, p, rfl, _⟩ := h
    rfl
  obtain ⟨A, d, s, m, p, rfl, x, t, hpl, ok, q⟩ := h
  refine ⟨_, (pss_cons (ps_set (i := 2) sc_leave_row.nd rfl (Or.inl rfl) (pe_ix (ixTK (K := K) rfl) (pe_dget (hu_of hr) (pe_fldK (K := K) rfl (pv 0) rfl) (pv 1) (nosl fun _ _ => rfl)) pe_int (fun _ _ => rfl)))
  (pss_cons (ps_expr (pe_bm PySem.F.plainAttrs_list PySem.F.slot_list_append PySem.F.type_list_append mt_append (pe_fldK (K := K) rfl (pv 0) rfl) (pa_cons (pe_tup (pa_cons pe_str (pa_cons (pv 1) pa_nil (star1 rfl)) (star1 rfl))) pa_nil (star1 rfl))))
  (pss_cons (ps_asg (pe_dget (hu_of hr) (pe_fldK (K := K) rfl (pv 0) rfl) (pv 2) (nosl fun _ _ => rfl)) (pg_tup rfl (pgs_cons (pg_name (i := 3) sc_leave_row.nd rfl (Or.inl rfl)) (pgs_cons (pg_name (i := 4) sc_leave_row.nd rfl (Or.inl rfl)) (pgs_cons (pg_name (i := 5) sc_leave_row.nd rfl (Or.inl rfl)) pgs_nil)))))
  (pss_cons (ps_if (pt_cmpR op_ne (pv 3) (pv 1) (nomark _)) (pss_cons (ps_dput (hu_of hr) (pe_fldK (K := K) rfl (pv 0) rfl) (pv 2) (pe_tup (pa_cons (pv 3) (pa_cons (pv 4) (pa_cons (pe_call (ok_places_without T) (hr.mono (by omega)) rfl T.m_places_without T.F_places_without.kp (b_places_without T) .nil pass0 (pa_cons (pv 5) (pa_cons (pv 1) pa_nil (star1 rfl)) (star1 rfl)) (by decide) (star1 rfl) (starAll rfl)) pa_nil (star1 rfl)) (star1 rfl)) (star1 rfl))) rfl)
  (pss_one (ps_ret pe_bl))) pss_nil)
  (pss_cons (ps_set (i := 6) sc_leave_row.nd rfl (Or.inl rfl) (pe_call (ok_pass_left T) (hr.mono (by omega)) rfl T.m_pass_left T.F_pass_left.kp (b_pass_left T) .nil pass0 (pa_cons (pv 0) (pa_cons (pv 2) pa_nil (star1 rfl)) (star1 rfl)) (by decide) (star1 rfl) (starAll rfl)))
  (pss_cons (ps_if (pt_cmp (pc_isN (pv 6))) (pss_cons (ps_expr (pe_call (ok_make_bare T) (hr.mono (by omega)) rfl T.m_make_bare T.F_make_bare.kp (b_make_bare T) .nil pass0 (pa_cons (pv 0) (pa_cons (pv 2) pa_nil (star1 rfl)) (star1 rfl)) (by decide) (star1 rfl) (starAll rfl)))
  (pss_one (ps_ret (pe_call ih hr rfl T.m_leave_row T.F_leave_row.kp (b_leave_row T) .nil pass0 (pa_cons (pv 0) (pa_cons (pv 2) pa_nil (star1 rfl)) (star1 rfl)) (by decide) (star1 rfl) (starAll rfl))))) pss_nil)
  (pss_cons (ps_if (pt_val (pe_call (ok_is_loose T) (hr.mono (by omega)) rfl T.m_is_loose T.F_is_loose.kp (b_is_loose T) .nil pass0 (pa_cons (pv 0) (pa_cons (pv 6) pa_nil (star1 rfl)) (star1 rfl)) (by decide) (star1 rfl) (starAll rfl))) (pss_one (ps_ret pe_bl)) pss_nil)
  (pss_cons (ps_expr (pe_call (ok_hand_on T) (hr.mono (by omega)) rfl T.m_hand_on T.F_hand_on.kp (b_hand_on T) .nil pass0 (pa_cons (pv 0) (pa_cons (pv 2) (pa_cons pe_str (pa_cons (pv 4) pa_nil (star1 rfl)) (star1 rfl)) (star1 rfl)) (star1 rfl)) (by decide) (star1 rfl) (starAll rfl)))
  (pss_one (ps_ret pe_bl)))))))))), ?_⟩
  cases p with
  | nil => exact ok.elim
  | cons g p =>
    obtain ⟨hp, gr, hgr, hgl, htl, hfl, okm⟩ := ok
    have gp : Ev (tOp (rIxT K) (tDGet (tFld K (tVar 0) "paths") (tVar 1)) (tC (.int 0))) (start N_leave_row [.ref A.q, .str m]) H (.str g) := fun H1 e1 Q' q' => by
      have x1 := x.ex e1
      obtain ⟨v, dg, a, rfl, st⟩ := (t.k4 x (K4.ex e1)).pa.get hp
      exact ⟨_, rfl, A.q, _, A.dx, A.fields, _, rfl, x1.ob, T.dc.cl, T.dc.pa, fld_pa, _, rfl, A.pa, _, rfl, dg, a, _, 0, _, rfl, rfl, st, at_nat (i := 0) rfl, q' H1 (Ex.refl H1)⟩
    refine q_asg gp fun H1 e1 => ?_
    have x1 := x.ex e1
    refine q_tell (ds := [.str "left", .str m]) T.dc x1 rfl (eu_tup (ea_cons ev_c (ea_cons (ev_var rfl) ea_nil)) (by simp)) (.cons rfl (.cons rfl .nil)) (by omega) fun H2 x2 k2 => ?_
    have k02 : K4 A H H2 := (K4.ex e1).trans k2
    refine q_getG T.dc x2 rfl rfl hgr fun u pl => ?_
    have neT : EvT (tTest (tOp rNe (tVar 3) (tVar 1))) [some (.ref A.q), some (.str m), some (.str g), some (optS gr.holder), some (.int gr.count), some u, none] H2 (!decide (gr.holder = some m)) := by
      refine et_is (et_test (ev_ne (ev_var rfl) (ev_var rfl) (by cases gr.holder <;> rfl))) ?_
      congr 1
      refine decide_eq_decide.mpr ⟨fun z => ?_, fun z => by rw [z]; rfl⟩
      cases hh : gr.holder with
      | none => rw [hh] at z; cases z
      | some y => rw [hh] at z; exact congrArg some (V.str.inj z)
    refine q_when neT (fun hb H3 e3 => ?_) (fun hb H3 e3 => ?_)
    · have hb : gr.holder ≠ some m := by simpa using hb
      refine q_putGR (g' := { gr with places := NL.without gr.places m }) T.dc (x2.ex e3) rfl rfl hgr (fun Q' q' => ?_) fun H4 x4 k4 => ?_
      · refine ⟨_, rfl, _, rfl, _, rfl, _, rfl, u, gr.places, m, rfl, pl.st (ST.ex e3), hgl, fun v H4 e4 plv => ⟨(by show 3 ≤ sizeLine; decide), fun r hr' => ?_⟩⟩
        have e5 := Ex.new (o := .tup [optS gr.holder, .int gr.count, v]) hr'
        exact q' (.ref r) _ (e4.trans e5) ⟨r, v, rfl, st_of upd_same, plv.st (ST.ex e5)⟩
      · refine s_ret ev_c fun H5 e5 => ?_
        simp only [leaveL, hgr, if_pos hb] at q
        exact q H5 (x4.ex e5) (((k02.trans (K4.ex e3)).trans k4).trans (K4.ex e5))
    · have hb : gr.holder = some m := by simpa using hb
      have okm := okm hb
      have hb' : ¬ gr.holder ≠ some m := fun z => z hb
      simp only [leaveL, hgr, if_neg hb'] at q
      have x3 := x2.ex e3
      have k03 := k02.trans (K4.ex e3)
      refine q_asgP ?_
      refine ⟨_, rfl, _, rfl, A, _, g, gr, rfl, x3, hgr, hgl, by rw [tell_len]; omega, by show d.firsts.length ≤ _; omega, fun H4 x4 k4 => ?_⟩
      obtain ⟨pf1, pf2, pf3, ⟨g1, pg1, pg2, pg3, pg4, pg5⟩, pf5⟩ := pass_facts (d := d.tell (e2 "left" m)) (n := g) hgr
      have k04 := k03.trans k4
      rw [tell_len] at pf2
      generalize hps : passLeft (d.tell (e2 "left" m)) g = pr at x4 pf1 pf2 pf3 pg1 pg5 pf5 okm q
      obtain ⟨d1, f⟩ := pr
      cases f with
      | none =>
        dsimp only at okm q pf1 pf2 pf3 pg1 pf5 x4
        refine q_when (b := true) (et_is (et_test (ev_isN (ev_var rfl))) rfl) (fun _ H5 e5 => ?_) (fun z => by cases z)
        refine q_dropP ?_
        refine ⟨_, rfl, _, rfl, A, d1, g, g1, rfl, x4.ex e5, pg1, by omega, fun H6 x6 k6 => ?_⟩
        have k06 := (k04.trans (K4.ex e5)).trans k6
        obtain ⟨j, rfl⟩ : ∃ j, k = j + 1 := ⟨k - 1, by simp only [List.length_cons] at hpl; omega⟩
        have eR := hR j rfl
        subst eR
        refine s_retP ?_
        exact ⟨_, rfl, _, rfl, A, _, s, g, p, rfl, x6, t.k4 x k06, by simp only [List.length_cons] at hpl; omega, okm, fun H7 x7 k7 => q H7 x7 (k06.trans k7)⟩
      | some f =>
        obtain ⟨bb, rest, hpl1⟩ := pg5 f rfl
        dsimp only at okm q pf1 pf2 pf3 pg1 pf5 x4
        refine q_when (b := false) (et_is (et_test (ev_isN (ev_var rfl))) rfl) (fun z => by cases z) (fun _ H5 e5 => ?_)
        have x5 := x4.ex e5
        refine q_when (et_B (ev_call (ea_cons (ev_var rfl) (ea_cons (ev_var rfl) ea_nil)) fun H6 e6 Q' q' E' => ⟨A, d1, f, rfl, x5.ex e6, q'⟩)) (fun hb2 H6 e6 => ?_) (fun hb2 H6 e6 => ?_)
        · rw [hb2, if_pos rfl] at q
          exact s_ret ev_c fun H7 e7 => q H7 (x5.ex (e6.trans e7)) ((k04.trans (K4.ex e5)).trans (K4.ex (e6.trans e7)))
        · rw [hb2, if_neg (by decide)] at q
          refine q_dropP ?_
          refine ⟨_, rfl, _, rfl, _, rfl, A, d1, g, "left", gr.count, g1, (f, bb), rest, rfl, x5.ex e6, pg1, hpl1, by omega, fun H7 x7 k7 => ?_⟩
          exact s_ret ev_c fun H8 e8 => q H8 (x7.ex e8) (((k04.trans (K4.ex (e5.trans e6))).trans k7).trans (K4.ex e8))
theorem lr_all (T : Tp w K mg) : ∀ k, FnOk P w K mg base CX0 (k + 2) T.f_leave_row T.d_leave_row ["draft", "member"] (spLeaveR K T.C_Draft k)
  | 0 => lr_step T (spR := fun _ _ _ _ => False) ⟨fun _ _ _ _ h => h.elim, fun _ _ _ _ _ _ _ _ _ _ _ _ _ h => h.elim⟩ (fun k h => by cases h)
  | k + 1 => lr_step T (lr_all T k) (fun j h => by cases h; rfl)
theorem ok_leave_row (T : Tp w K mg) : FnOk P w K mg base CX0 14 T.f_leave_row T.d_leave_row ["draft", "member"] (spLeaveR K T.C_Draft 12) := lr_all T 12
theorem ok_leave (T : Tp w K mg) : FnOk P w K mg base CX0 15 T.f_leave T.d_leave ["draft", "hand"] (spLeave K T.C_Draft) := by
  refine T.F_leave.ok sc_leave (fun vs H Q E h => ?_) (fun cdv A outer s H vs Q E hr h => ?_)
  · obtain ⟨A, d, s, hand, r, p, rfl, _⟩ := h
    rfl
  obtain ⟨A, d, s, hand, r, p, rfl, x, t, hn, hp, hpl, ok, q⟩ := h
  refine ⟨_, (pss_cons (ps_asg (pe_dget (hu_of hr) (pe_fldK (K := K) rfl (pv 0) rfl) (pv 1) (nosl fun _ _ => rfl)) (pg_tup rfl (pgs_cons (pg_name (i := 2) sc_leave.nd rfl (Or.inl rfl)) (pgs_cons (pg_name (i := 3) sc_leave.nd rfl (Or.inl rfl)) (pgs_cons (pg_name (i := 4) sc_leave.nd rfl (Or.inl rfl)) (pgs_cons (pg_name (i := 5) sc_leave.nd rfl (Or.inl rfl)) pgs_nil))))))
  (pss_cons (ps_dput (hu_of hr) (pe_fldK (K := K) rfl (pv 0) rfl) (pv 1) (pe_tup (pa_cons (pe_op op_add (pv 2) pe_int) (pa_cons pe_int (pa_cons pe_str (pa_cons pe_non pa_nil (star1 rfl)) (star1 rfl)) (star1 rfl)) (star1 rfl))) rfl)
  (pss_one (ps_ret (pe_call (ok_leave_row T) (hr.mono (by decide)) rfl T.m_leave_row T.F_leave_row.kp (b_leave_row T) .nil pass0 (pa_cons (pv 0) (pa_cons (pv 1) pa_nil (star1 rfl)) (star1 rfl)) (by decide) (star1 rfl) (starAll rfl)))))), ?_⟩
  refine q_getH T.dc x rfl rfl hn ?_
  refine q_putH (r' := ⟨r.row + 1, 0, .out, none⟩) T.dc x rfl rfl hn (eu_tup (ea_cons (ev_I0 (ev_var rfl) ev_c) (ea_cons ev_c (ea_cons ev_c (ea_cons ev_c ea_nil)))) (by simp)) fun H1 x1 k1 => ?_
  have eq0 : leave s d hand = leaveL (d.setH hand ⟨r.row + 1, 0, .out, none⟩) hand p := by
    unfold leave
    rw [hn, hp]
  rw [eq0] at q
  refine s_retP ?_
  exact ⟨_, rfl, _, rfl, A, _, s, hand, p, rfl, x1, t.k4 x k1, hpl, ok, fun H2 x2 k2 => q H2 x2 (k1.trans k2)⟩
end
/-! ### rows done -/
def spIsW (K : PySem.W.Frag) (C : Addr) : Sp := fun vs H Q _ => ∃ (A : DrA) (d : DS) (h : Str) (r : HR), vs = [.ref A.q, .str h] ∧ DrAt K C H A d ∧ getN d.hs h = some r ∧ ∀ H', Ex H H' → Q (.bl (decide (r.how = .within))) H'
def spFinish (K : PySem.W.Frag) (C : Addr) : Sp := fun vs H Q _ => ∃ (A : DrA) (d : DS) (h : Str) (r : HR) (l : Int) (v : V) (e : PyData), vs = [.ref A.q, .str h, .int l, v] ∧ DrAt K C H A d ∧ getN d.hs h = some r ∧ EvV K H v e ∧ d.told.length ≤ 80000 ∧ ∀ H', DrAt K C H' A (finish d h l e) → K4 A H H' → Q .non H'
def spGo (K : PySem.W.Frag) (C : Addr) : Sp := fun vs H Q _ => ∃ (A : DrA) (d : DS) (h : Str) (r : HR) (n : Int), vs = [.ref A.q, .str h, .int n] ∧ DrAt K C H A d ∧ getN d.hs h = some r ∧ d.told.length ≤ 80000 ∧ ∀ H', DrAt K C H' A (goTo d h n) → K4 A H H' → Q .non H'
def spDo (K : PySem.W.Frag) (C : Addr) (isR : Row → Prop) : Sp := fun vs H Q _ => ∃ (A : DrA) (d : DS) (s : Sta) (h : Str) (r : HR) (v : V) (row : Row), vs = [.ref A.q, .str h, v] ∧ DrAt K C H A d ∧ StAt K H A s ∧ getN d.hs h = some r ∧ RowV K H v row ∧ isR row ∧ actOk s d h r row ∧ d.told.length ≤ 58000 ∧
  ∀ H', DrAt K C H' A (doAct s d h r row).1 → K4 A H H' → Q (optS (doAct s d h r row).2) H'
theorem at_last {p : List Str} {h : Str} (hp : p ≠ []) : atI (p.map V.str) (-1) = some (.str (p.getLastD h)) := by
  have hl : p.length ≠ 0 := fun z => hp (List.length_eq_zero_iff.mp z)
  unfold atI ixN
  rw [if_neg (by decide), if_pos (by rw [List.length_map]; omega), List.length_map]
  have e : ((-1 : Int) + (p.length : Int)).toNat = p.length - 1 := by omega
  rw [e, Option.bind_some, List.getElem?_map, List.getLastD_eq_getLast?, List.getLast?_eq_getElem?]
  cases z : p[p.length - 1]? with
  | none =>
    rw [List.getElem?_eq_none_iff] at z
    omega
  | some y => rfl
section
variable {P : Program} {w : World} {K : PySem.W.Frag} {mg : Str → Option Value} {base : Heap}
theorem ok_is_within (T : Tp w K mg) : FnOk P w K mg base CX0 1 T.f_is_within T.d_is_within ["draft", "hand"] (spIsW K T.C_Draft) := by
  refine T.F_is_within.ok sc_is_within (fun vs H Q E h => ?_) (fun cdv A outer s H vs Q E hr h => ?_)
  · obtain ⟨A, d, h, r, rfl, _⟩ := h
    rfl
  obtain ⟨A, d, h, r, rfl, x, hn, q⟩ := h
  refine ⟨_, (pss_cons (ps_asg (pe_dget (hu_of hr) (pe_fldK (K := K) rfl (pv 0) rfl) (pv 1) (nosl fun _ _ => rfl)) (pg_tup rfl (pgs_cons (pg_name (i := 2) sc_is_within.nd rfl (Or.inl rfl)) (pgs_cons (pg_name (i := 3) sc_is_within.nd rfl (Or.inl rfl)) (pgs_cons (pg_name (i := 4) sc_is_within.nd rfl (Or.inl rfl)) (pgs_cons (pg_name (i := 5) sc_is_within.nd rfl (Or.inl rfl)) pgs_nil))))))
  (pss_one (ps_ret (pe_cmpR op_eq (pv 4) pe_str (nomark _))))), ?_⟩
  refine q_getH T.dc x rfl rfl hn ?_
  exact s_ret (ev_is (ev_eq (ev_var rfl) ev_c rfl) (congrArg V.bl (how_eq r.how .within))) q
theorem ok_finish (T : Tp w K mg) : FnOk P w K mg base CX0 1 T.f_finish T.d_finish ["draft", "hand", "last", "event"] (spFinish K T.C_Draft) := by
  refine T.F_finish.ok sc_finish (fun vs H Q E h => ?_) (fun cdv A outer s H vs Q E hr h => ?_)
  · obtain ⟨A, d, h, r, l, v, e, rfl, _⟩ := h
    rfl
  obtain ⟨A, d, h, r, l, v, e, rfl, x, hn, hv, hl, q⟩ := h
  refine ⟨_, (pss_cons (ps_asg (pe_dget (hu_of hr) (pe_fldK (K := K) rfl (pv 0) rfl) (pv 1) (nosl fun _ _ => rfl)) (pg_tup rfl (pgs_cons (pg_name (i := 4) sc_finish.nd rfl (Or.inl rfl)) (pgs_cons (pg_name (i := 5) sc_finish.nd rfl (Or.inl rfl)) (pgs_cons (pg_name (i := 6) sc_finish.nd rfl (Or.inl rfl)) (pgs_cons (pg_name (i := 7) sc_finish.nd rfl (Or.inl rfl)) pgs_nil))))))
  (pss_cons (ps_dput (hu_of hr) (pe_fldK (K := K) rfl (pv 0) rfl) (pv 1) (pe_tup (pa_cons (pe_op op_add (pv 4) pe_int) (pa_cons (pv 2) (pa_cons (pv 6) (pa_cons (pv 7) pa_nil (star1 rfl)) (star1 rfl)) (star1 rfl)) (star1 rfl))) rfl)
  (pss_one (ps_expr (pe_bm PySem.F.plainAttrs_list PySem.F.slot_list_append PySem.F.type_list_append mt_append (pe_fldK (K := K) rfl (pv 0) rfl) (pa_cons (pv 3) pa_nil (star1 rfl))))))), ?_⟩
  refine q_getH T.dc x rfl rfl hn ?_
  refine q_putH (r' := ⟨r.row + 1, l, r.how, r.looks⟩) T.dc x rfl rfl hn (eu_tup (ea_cons (ev_I0 (ev_var rfl) ev_c) (ea_cons (ev_var rfl) (ea_cons (ev_var rfl) (ea_cons (ev_var rfl) ea_nil)))) (by simp)) fun H1 x1 k1 => ?_
  refine s_tellV (l := 3) (v := v) (e := e) T.dc x1 rfl rfl (hv.st (x.sT k1)) (by show d.told.length < _; omega) fun H2 x2 k2 => q H2 ?_ (k1.trans k2)
  unfold NL.finish
  rw [hn]
  exact x2
theorem ok_go (T : Tp w K mg) : FnOk P w K mg base CX0 1 T.f_go T.d_go ["draft", "hand", "number"] (spGo K T.C_Draft) := by
  refine T.F_go.ok sc_go (fun vs H Q E h => ?_) (fun cdv A outer s H vs Q E hr h => ?_)
  · obtain ⟨A, d, h, r, n, rfl, _⟩ := h
    rfl
  obtain ⟨A, d, h, r, n, rfl, x, hn, hl, q⟩ := h
  refine ⟨_, (pss_cons (ps_asg (pe_dget (hu_of hr) (pe_fldK (K := K) rfl (pv 0) rfl) (pv 1) (nosl fun _ _ => rfl)) (pg_tup rfl (pgs_cons (pg_name (i := 3) sc_go.nd rfl (Or.inl rfl)) (pgs_cons (pg_name (i := 4) sc_go.nd rfl (Or.inl rfl)) (pgs_cons (pg_name (i := 5) sc_go.nd rfl (Or.inl rfl)) (pgs_cons (pg_name (i := 6) sc_go.nd rfl (Or.inl rfl)) pgs_nil))))))
  (pss_cons (ps_dput (hu_of hr) (pe_fldK (K := K) rfl (pv 0) rfl) (pv 1) (pe_tup (pa_cons (pv 2) (pa_cons (pv 4) (pa_cons (pv 5) (pa_cons (pv 6) pa_nil (star1 rfl)) (star1 rfl)) (star1 rfl)) (star1 rfl))) rfl)
  (pss_one (ps_expr (pe_bm PySem.F.plainAttrs_list PySem.F.slot_list_append PySem.F.type_list_append mt_append (pe_fldK (K := K) rfl (pv 0) rfl) (pa_cons (pe_tup (pa_cons pe_str (pa_cons (pv 1) (pa_cons (pv 2) pa_nil (star1 rfl)) (star1 rfl)) (star1 rfl))) pa_nil (star1 rfl))))))), ?_⟩
  refine q_getH T.dc x rfl rfl hn ?_
  refine q_putH (r' := ⟨n, r.last, r.how, r.looks⟩) T.dc x rfl rfl hn (eu_tup (ea_cons (ev_var rfl) (ea_cons (ev_var rfl) (ea_cons (ev_var rfl) (ea_cons (ev_var rfl) ea_nil)))) (by simp)) fun H1 x1 k1 => ?_
  refine s_tell (ds := [.str "went", .str h, .int n]) T.dc x1 rfl (eu_tup (ea_cons ev_c (ea_cons (ev_var rfl) (ea_cons (ev_var rfl) ea_nil))) (by simp)) (.cons rfl (.cons rfl (.cons rfl .nil))) (by show d.told.length < _; omega) fun H2 x2 k2 => q H2 ?_ (k1.trans k2)
  unfold goTo
  rw [hn]
  exact x2
theorem ev_isW (T : Tp w K mg) {A : DrA} {d : DS} {h : Str} {r : HR} {σ : L2.St} {H : Hp} (x : DrAt K T.C_Draft H A d) (hn : getN d.hs h = some r) (e0 : σ[0]? = some (some (.ref A.q))) (e1 : σ[1]? = some (some (.str h))) : EvT (tB (tCall (spIsW K T.C_Draft) [] E0 (tCons (tVar 0) (tCons (tVar 1) tNil)))) σ H (decide (r.how = .within)) :=
  et_B (ev_call (ea_cons (ev_var e0) (ea_cons (ev_var e1) ea_nil)) fun H2 e2 Q' q' E' => ⟨A, d, h, r, rfl, x.ex e2, hn, q'⟩)
theorem ok_do_take (T : Tp w K mg) : FnOk P w K mg base CX0 3 T.f_do_take T.d_do_take ["draft", "hand", "row"] (spDo K T.C_Draft fun r => ∃ l, r = .take l) := by
  refine T.F_do_take.ok sc_do_take (fun vs H Q E h => ?_) (fun cdv A outer s H vs Q E hr h => ?_)
  · obtain ⟨A, d, s, h, r, v, row, rfl, _⟩ := h
    rfl
  obtain ⟨A, d, s, h, r, v, row, rfl, x, t, hn, ⟨a, rfl, st⟩, ⟨l, rfl⟩, ok, hl, q⟩ := h
  refine ⟨_, (pss_cons (ps_if (pt_val (pe_call (ok_is_within T) (hr.mono (by decide)) rfl T.m_is_within T.F_is_within.kp (b_is_within T) .nil pass0 (pa_cons (pv 0) (pa_cons (pv 1) pa_nil (star1 rfl)) (star1 rfl)) (by decide) (star1 rfl) (starAll rfl))) (pss_one (ps_expr (pe_call (ok_finish T) (hr.mono (by decide)) rfl T.m_finish T.F_finish.kp (b_finish T) .nil pass0 (pa_cons (pv 0) (pa_cons (pv 1) (pa_cons (pe_un un_neg pe_int) (pa_cons (pe_tup (pa_cons pe_str (pa_cons (pv 1) pa_nil (star1 rfl)) (star1 rfl))) pa_nil (star1 rfl)) (star1 rfl)) (star1 rfl)) (star1 rfl)) (by decide) (star1 rfl) (starAll rfl)))) (pss_one (ps_expr (pe_call (ok_stand T) (hr.mono (by decide)) rfl T.m_stand T.F_stand.kp (b_stand T) .nil pass0 (pa_cons (pv 0) (pa_cons (pv 1) (pa_cons (pe_ix (ixTK (K := K) rfl) (pv 2) pe_int (fun _ _ => rfl)) pa_nil (star1 rfl)) (star1 rfl)) (star1 rfl)) (by decide) (star1 rfl) (starAll rfl)))))
  (pss_one (ps_ret pe_non))), ?_⟩
  refine q_if (ev_isW T x hn rfl rfl) (fun hb H1 e1 => ?_) (fun hb H1 e1 => ?_)
  · have hb := of_decide_eq_true hb
    simp only [doAct, if_pos hb] at q
    refine s_dropP ?_
    refine ⟨_, rfl, _, rfl, 1, rfl, _, rfl, (by show 2 ≤ sizeLine; decide), fun p hp => ⟨A, d, h, r, -1, .ref p, _, rfl, x.ex (e1.trans (Ex.new hp)), hn, ev_of upd_same (.cons rfl (.cons rfl .nil)), by omega, fun H2 x2 k2 => ?_⟩⟩
    exact q _ x2 ((K4.ex (e1.trans (Ex.new hp))).trans k2)
  · have hb := of_decide_eq_false hb
    simp only [doAct, if_neg hb] at q
    obtain ⟨p, hp, hpl, so⟩ := ok hb
    refine s_dropP ?_
    refine ⟨_, rfl, _, rfl, _, rfl, a, _, 1, optI l, rfl, rfl, ex_t e1 st, rfl, A, d, s, h, l, r, p, rfl, x.ex e1, t.k4 x (K4.ex e1), hn, hp, hpl, so, by omega, fun H2 x2 k2 => ?_⟩
    exact q _ x2 ((K4.ex e1).trans k2)
theorem ok_do_try (T : Tp w K mg) : FnOk P w K mg base CX0 3 T.f_do_try T.d_do_try ["draft", "hand", "row"] (spDo K T.C_Draft fun r => r = .tri) := by
  refine T.F_do_try.ok sc_do_try (fun vs H Q E h => ?_) (fun cdv A outer s H vs Q E hr h => ?_)
  · obtain ⟨A, d, s, h, r, v, row, rfl, _⟩ := h
    rfl
  obtain ⟨A, d, s, h, r, v, row, rfl, x, t, hn, ⟨a, rfl, st⟩, rfl, ⟨⟨p, g, hp, hp0, hg⟩, ok⟩, hl, q⟩ := h
  refine ⟨_, (pss_cons (ps_set (i := 3) sc_do_try.nd rfl (Or.inl rfl) (pe_ix (ixTK (K := K) rfl) (pe_dget (hu_of hr) (pe_fldK (K := K) rfl (pv 0) rfl) (pv 1) (nosl fun _ _ => rfl)) (pe_un un_neg pe_int) (fun _ _ => rfl)))
  (pss_cons (ps_asg (pe_dget (hu_of hr) (pe_fldK (K := K) rfl (pv 0) rfl) (pv 3) (nosl fun _ _ => rfl)) (pg_tup rfl (pgs_cons (pg_name (i := 4) sc_do_try.nd rfl (Or.inl rfl)) (pgs_cons (pg_name (i := 5) sc_do_try.nd rfl (Or.inl rfl)) (pgs_cons (pg_name (i := 6) sc_do_try.nd rfl (Or.inl rfl)) pgs_nil)))))
  (pss_cons (ps_if (pt_val (pe_call (ok_is_within T) (hr.mono (by decide)) rfl T.m_is_within T.F_is_within.kp (b_is_within T) .nil pass0 (pa_cons (pv 0) (pa_cons (pv 1) pa_nil (star1 rfl)) (star1 rfl)) (by decide) (star1 rfl) (starAll rfl))) (pss_one (ps_expr (pe_call (ok_finish T) (hr.mono (by decide)) rfl T.m_finish T.F_finish.kp (b_finish T) .nil pass0 (pa_cons (pv 0) (pa_cons (pv 1) (pa_cons (pe_un un_neg pe_int) (pa_cons (pe_tup (pa_cons pe_str (pa_cons (pv 1) pa_nil (star1 rfl)) (star1 rfl))) pa_nil (star1 rfl)) (star1 rfl)) (star1 rfl)) (star1 rfl)) (by decide) (star1 rfl) (starAll rfl)))) (pss_one (ps_if (pt_cmp (pc_isN (pv 4))) (pss_one (ps_expr (pe_call (ok_stand T) (hr.mono (by decide)) rfl T.m_stand T.F_stand.kp (b_stand T) .nil pass0 (pa_cons (pv 0) (pa_cons (pv 1) (pa_cons pe_non pa_nil (star1 rfl)) (star1 rfl)) (star1 rfl)) (by decide) (star1 rfl) (starAll rfl)))) (pss_one (ps_expr (pe_call (ok_finish T) (hr.mono (by decide)) rfl T.m_finish T.F_finish.kp (b_finish T) .nil pass0 (pa_cons (pv 0) (pa_cons (pv 1) (pa_cons pe_int (pa_cons (pe_tup (pa_cons pe_str (pa_cons (pv 1) pa_nil (star1 rfl)) (star1 rfl))) pa_nil (star1 rfl)) (star1 rfl)) (star1 rfl)) (star1 rfl)) (by decide) (star1 rfl) (starAll rfl)))))))
  (pss_one (ps_ret pe_non))))), ?_⟩
  have gp : Ev (tOp (rIxT K) (tDGet (tFld K (tVar 0) "paths") (tVar 1)) (tUn (rU fun i => .int (-i)) (tC (.int 1)))) (start N_do_try [.ref A.q, .str h, .ref a]) H (.str (p.getLastD h)) := fun H1 e1 Q' q' => by
    have x1 := x.ex e1
    obtain ⟨v, dg, b, rfl, st⟩ := (t.k4 x (K4.ex e1)).pa.get hp
    exact ⟨_, rfl, A.q, _, A.dx, A.fields, _, rfl, x1.ob, T.dc.cl, T.dc.pa, fld_pa, _, rfl, A.pa, _, rfl, dg, 1, rfl, b, _, -1, _, rfl, rfl, st, at_last hp0, q' H1 (Ex.refl H1)⟩
  refine q_asg gp fun H1 e1 => ?_
  have x1 := x.ex e1
  refine q_getG T.dc x1 rfl rfl hg fun u pl => ?_
  have wf : wholeFree s d h = g.holder.isNone := by
    unfold wholeFree
    rw [hp]
    simp only [hg]
  refine q_if (ev_isW T x1 hn rfl rfl) (fun hb H2 e2 => ?_) (fun hb H2 e2 => ?_)
  · have hb := of_decide_eq_true hb
    simp only [doAct, if_pos hb] at q
    refine s_dropP ?_
    refine ⟨_, rfl, _, rfl, 1, rfl, _, rfl, (by show 2 ≤ sizeLine; decide), fun b hb' => ⟨A, d, h, r, -1, .ref b, _, rfl, x1.ex (e2.trans (Ex.new hb')), hn, ev_of upd_same (.cons rfl (.cons rfl .nil)), by omega, fun H3 x3 k3 => ?_⟩⟩
    exact q _ x3 ((K4.ex ((e1.trans e2).trans (Ex.new hb'))).trans k3)
  · have hb := of_decide_eq_false hb
    simp only [doAct, if_neg hb, wf] at q
    have x2 := x1.ex e2
    refine s_if (b := g.holder.isNone) (et_is (et_test (ev_isN (ev_var rfl))) (by cases g.holder <;> rfl)) (fun hb2 H3 e3 => ?_) (fun hb2 H3 e3 => ?_)
    · rw [hb2, if_pos rfl] at q
      obtain ⟨p', hp', hpl, so⟩ := ok hb (by rw [wf]; exact hb2)
      have e13 := (e1.trans e2).trans e3
      refine s_dropP ?_
      refine ⟨_, rfl, _, rfl, A, d, s, h, none, r, p', rfl, x2.ex e3, t.k4 x (K4.ex e13), hn, hp', hpl, so, by omega, fun H4 x4 k4 => ?_⟩
      exact q _ x4 ((K4.ex e13).trans k4)
    · rw [hb2, if_neg (by decide)] at q
      have e13 := (e1.trans e2).trans e3
      refine s_dropP ?_
      refine ⟨_, rfl, _, rfl, _, rfl, (by show 2 ≤ sizeLine; decide), fun b hb' => ⟨A, d, h, r, 0, .ref b, _, rfl, x2.ex (e3.trans (Ex.new hb')), hn, ev_of upd_same (.cons rfl (.cons rfl .nil)), by omega, fun H4 x4 k4 => ?_⟩⟩
      exact q _ x4 ((K4.ex (e13.trans (Ex.new hb'))).trans k4)
theorem ok_do_let (T : Tp w K mg) : FnOk P w K mg base CX0 4 T.f_do_let T.d_do_let ["draft", "hand", "row"] (spDo K T.C_Draft fun r => r = .let_) := by
  refine T.F_do_let.ok sc_do_let (fun vs H Q E h => ?_) (fun cdv A outer s H vs Q E hr h => ?_)
  · obtain ⟨A, d, s, h, r, v, row, rfl, _⟩ := h
    rfl
  obtain ⟨A, d, s, h, r, v, row, rfl, x, t, hn, ⟨a, rfl, st⟩, rfl, ok, hl, q⟩ := h
  refine ⟨_, (pss_cons (ps_if (pt_val (pe_call (ok_is_within T) (hr.mono (by decide)) rfl T.m_is_within T.F_is_within.kp (b_is_within T) .nil pass0 (pa_cons (pv 0) (pa_cons (pv 1) pa_nil (star1 rfl)) (star1 rfl)) (by decide) (star1 rfl) (starAll rfl))) (pss_one (ps_ret (pe_ifExp (pt_val (pe_call (ok_let_go T) (hr.mono (by decide)) rfl T.m_let_go T.F_let_go.kp (b_let_go T) .nil pass0 (pa_cons (pv 0) (pa_cons (pv 1) pa_nil (star1 rfl)) (star1 rfl)) (by decide) (star1 rfl) (starAll rfl))) pe_non pe_str))) pss_nil)
  (pss_cons (ps_expr (pe_call (ok_finish T) (hr.mono (by decide)) rfl T.m_finish T.F_finish.kp (b_finish T) .nil pass0 (pa_cons (pv 0) (pa_cons (pv 1) (pa_cons (pe_un un_neg pe_int) (pa_cons (pe_tup (pa_cons pe_str (pa_cons (pv 1) pa_nil (star1 rfl)) (star1 rfl))) pa_nil (star1 rfl)) (star1 rfl)) (star1 rfl)) (star1 rfl)) (by decide) (star1 rfl) (starAll rfl)))
  (pss_one (ps_ret pe_non)))), ?_⟩
  refine q_when (ev_isW T x hn rfl rfl) (fun hb H1 e1 => ?_) (fun hb H1 e1 => ?_)
  · have hb := of_decide_eq_true hb
    simp only [doAct, if_pos hb] at q
    obtain ⟨p, hp, hp0, hpl, lo⟩ := ok hb
    refine s_retP ?_
    refine ⟨_, rfl, _, rfl, A, d, s, h, r, p, rfl, x.ex e1, t.k4 x (K4.ex e1), hn, hp, hp0, hpl, lo, by omega, fun H2 x2 k2 => ⟨_, rfl, ?_⟩⟩
    have q2 := q H2 x2 ((K4.ex e1).trans k2)
    cases hk : (NL.letGo s d h).2 with
    | true =>
      rw [hk] at q2
      exact q2
    | false =>
      rw [hk] at q2
      exact q2
  · have hb := of_decide_eq_false hb
    simp only [doAct, if_neg hb] at q
    refine q_dropP ?_
    refine ⟨_, rfl, _, rfl, 1, rfl, _, rfl, (by show 2 ≤ sizeLine; decide), fun p hp => ⟨A, d, h, r, -1, .ref p, _, rfl, x.ex (e1.trans (Ex.new hp)), hn, ev_of upd_same (.cons rfl (.cons rfl .nil)), by omega, fun H2 x2 k2 => ?_⟩⟩
    exact s_ret ev_c fun H3 e3 => q H3 (x2.ex e3) (((K4.ex (e1.trans (Ex.new hp))).trans k2).trans (K4.ex e3))
theorem ok_do_say (T : Tp w K mg) : FnOk P w K mg base CX0 2 T.f_do_say T.d_do_say ["draft", "hand", "row"] (spDo K T.C_Draft fun r => ∃ n, r = .say n) := by
  refine T.F_do_say.ok sc_do_say (fun vs H Q E h => ?_) (fun cdv A outer s H vs Q E hr h => ?_)
  · obtain ⟨A, d, s, h, r, v, row, rfl, _⟩ := h
    rfl
  obtain ⟨A, d, s, h, r, v, row, rfl, x, t, hn, ⟨a, rfl, st⟩, ⟨n, rfl⟩, ok, hl, q⟩ := h
  refine ⟨_, (pss_cons (ps_expr (pe_call (ok_finish T) (hr.mono (by decide)) rfl T.m_finish T.F_finish.kp (b_finish T) .nil pass0 (pa_cons (pv 0) (pa_cons (pv 1) (pa_cons pe_int (pa_cons (pe_tup (pa_cons pe_str (pa_cons (pv 1) (pa_cons (pe_ix (ixTK (K := K) rfl) (pv 2) pe_int (fun _ _ => rfl)) pa_nil (star1 rfl)) (star1 rfl)) (star1 rfl))) pa_nil (star1 rfl)) (star1 rfl)) (star1 rfl)) (star1 rfl)) (by decide) (star1 rfl) (starAll rfl)))
  (pss_one (ps_ret pe_non))), ?_⟩
  refine q_dropP ?_
  refine ⟨_, rfl, _, rfl, _, rfl, _, rfl, a, _, 1, .int n, rfl, rfl, st, rfl, (by show 3 ≤ sizeLine; decide), fun p hp => ⟨A, d, h, r, 0, .ref p, _, rfl, x.ex (Ex.new hp), hn, ev_of upd_same (.cons rfl (.cons rfl (.cons rfl .nil))), by omega, fun H2 x2 k2 => ?_⟩⟩
  exact s_ret ev_c fun H3 e3 => q H3 (x2.ex e3) (((K4.ex (Ex.new hp)).trans k2).trans (K4.ex e3))
theorem ok_do_goto (T : Tp w K mg) : FnOk P w K mg base CX0 2 T.f_do_goto T.d_do_goto ["draft", "hand", "row"] (spDo K T.C_Draft fun r => ∃ n, r = .goto n) := by
  refine T.F_do_goto.ok sc_do_goto (fun vs H Q E h => ?_) (fun cdv A outer s H vs Q E hr h => ?_)
  · obtain ⟨A, d, s, h, r, v, row, rfl, _⟩ := h
    rfl
  obtain ⟨A, d, s, h, r, v, row, rfl, x, t, hn, ⟨a, rfl, st⟩, ⟨n, rfl⟩, ok, hl, q⟩ := h
  refine ⟨_, (pss_cons (ps_expr (pe_call (ok_go T) (hr.mono (by decide)) rfl T.m_go T.F_go.kp (b_go T) .nil pass0 (pa_cons (pv 0) (pa_cons (pv 1) (pa_cons (pe_ix (ixTK (K := K) rfl) (pv 2) pe_int (fun _ _ => rfl)) pa_nil (star1 rfl)) (star1 rfl)) (star1 rfl)) (by decide) (star1 rfl) (starAll rfl)))
  (pss_one (ps_ret pe_non))), ?_⟩
  refine q_dropP ?_
  refine ⟨_, rfl, _, rfl, _, rfl, a, _, 1, .int n, rfl, rfl, st, rfl, A, d, h, r, n, rfl, x, hn, by omega, fun H2 x2 k2 => ?_⟩
  exact s_ret ev_c fun H3 e3 => q H3 (x2.ex e3) (k2.trans (K4.ex e3))
theorem ok_do_if (T : Tp w K mg) : FnOk P w K mg base CX0 2 T.f_do_if T.d_do_if ["draft", "hand", "row"] (spDo K T.C_Draft fun r => ∃ a n, r = .iff a n) := by
  refine T.F_do_if.ok sc_do_if (fun vs H Q E h => ?_) (fun cdv A outer s H vs Q E hr h => ?_)
  · obtain ⟨A, d, s, h, r, v, row, rfl, _⟩ := h
    rfl
  obtain ⟨A, d, s, h, r, v, row, rfl, x, t, hn, ⟨a, rfl, st⟩, ⟨i, n, rfl⟩, ok, hl, q⟩ := h
  refine ⟨_, (pss_cons (ps_asg (pe_dget (hu_of hr) (pe_fldK (K := K) rfl (pv 0) rfl) (pv 1) (nosl fun _ _ => rfl)) (pg_tup rfl (pgs_cons (pg_name (i := 3) sc_do_if.nd rfl (Or.inl rfl)) (pgs_cons (pg_name (i := 4) sc_do_if.nd rfl (Or.inl rfl)) (pgs_cons (pg_name (i := 5) sc_do_if.nd rfl (Or.inl rfl)) (pgs_cons (pg_name (i := 6) sc_do_if.nd rfl (Or.inl rfl)) pgs_nil))))))
  (pss_cons (ps_expr (pe_call (ok_go T) (hr.mono (by decide)) rfl T.m_go T.F_go.kp (b_go T) .nil pass0 (pa_cons (pv 0) (pa_cons (pv 1) (pa_cons (pe_ifExp (pt_cmpR op_eq (pv 4) (pe_ix (ixTK (K := K) rfl) (pv 2) pe_int (fun _ _ => rfl)) (nomark _)) (pe_ix (ixTK (K := K) rfl) (pv 2) pe_int (fun _ _ => rfl)) (pe_op op_add (pv 3) pe_int)) pa_nil (star1 rfl)) (star1 rfl)) (star1 rfl)) (by decide) (star1 rfl) (starAll rfl)))
  (pss_one (ps_ret pe_non)))), ?_⟩
  refine q_getH T.dc x rfl rfl hn ?_
  have nx : ∀ {σ : L2.St}, σ[2]? = some (some (.ref a)) → σ[3]? = some (some (.int r.row)) → σ[4]? = some (some (.int r.last)) → Ev (tIf (tTest (tOp rEq (tVar 4) (tOp (rIxT K) (tVar 2) (tC (.int 1))))) (tOp (rIxT K) (tVar 2) (tC (.int 2))) (tOp (rI0 fun i j => .int (i + j)) (tVar 3) (tC (.int 1)))) σ H (.int (if r.last = i then n else r.row + 1)) := fun h2 h3 h4 => by
    refine ev_if (b := decide (r.last = i)) (et_is (et_test (ev_eq (ev_var h4) (ev_ixT (v := .int i) (ev_var h2) ev_c st rfl) rfl)) (decide_eq_decide.mpr ⟨fun z => V.int.inj z, fun z => by rw [z]⟩)) (fun h => ?_) (fun h => ?_)
    · rw [if_pos (of_decide_eq_true h)]
      exact ev_ixT (v := .int n) (ev_var h2) ev_c st rfl
    · rw [if_neg (of_decide_eq_false h)]
      exact ev_I0 (ev_var h3) ev_c
  refine q_dropP ?_
  refine ⟨_, rfl, _, rfl, nx rfl rfl rfl H (Ex.refl H) _ fun H1 e1 => ⟨A, d, h, r, _, rfl, x.ex e1, hn, by omega, fun H2 x2 k2 => ?_⟩⟩
  exact s_ret ev_c fun H3 e3 => q H3 (x2.ex e3) (((K4.ex e1).trans k2).trans (K4.ex e3))
end
/-! ### what a hand does next -/
def spHow (K : PySem.W.Frag) (C : Addr) (isH : How → Prop) : Sp := fun vs H Q _ => ∃ (A : DrA) (d : DS) (s : Sta) (h : Str) (r : HR), vs = [.ref A.q, .str h] ∧ DrAt K C H A d ∧ StAt K H A s ∧ getN d.hs h = some r ∧ isH r.how ∧ howOk s d h r ∧ d.told.length ≤ 58000 ∧
  ∀ H', DrAt K C H' A (doHow s d h r).1 → K4 A H H' → Q (optS (doHow s d h r).2) H'
section
variable {P : Program} {w : World} {K : PySem.W.Frag} {mg : Str → Option Value} {base : Heap}
/-- which promise goes with which def of the rows' table -/
def rowS (T : Tp w K mg) : Addr → Option Sp := fun f =>
  if f = T.f_do_take then some (spDo K T.C_Draft fun r => ∃ l, r = .take l) else if f = T.f_do_try then some (spDo K T.C_Draft fun r => r = .tri) else if f = T.f_do_let then some (spDo K T.C_Draft fun r => r = .let_) else if f = T.f_do_say then some (spDo K T.C_Draft fun r => ∃ n, r = .say n) else if f = T.f_do_goto then some (spDo K T.C_Draft fun r => ∃ n, r = .goto n) else if f = T.f_do_if then some (spDo K T.C_Draft fun r => ∃ a n, r = .iff a n) else none
theorem rowHeld (T : Tp w K mg) : ∀ f sp, rowS T f = some sp → Held P w K mg base (5 - 1) f sp := by
  intro f sp h
  unfold rowS at h
  split at h
  · rename_i e; subst e; cases h; exact ⟨_, _, (ok_do_take T).mono (by decide), T.F_do_take.kp, b_do_take T⟩
  split at h
  · rename_i e; subst e; cases h; exact ⟨_, _, (ok_do_try T).mono (by decide), T.F_do_try.kp, b_do_try T⟩
  split at h
  · rename_i e; subst e; cases h; exact ⟨_, _, (ok_do_let T).mono (by decide), T.F_do_let.kp, b_do_let T⟩
  split at h
  · rename_i e; subst e; cases h; exact ⟨_, _, (ok_do_say T).mono (by decide), T.F_do_say.kp, b_do_say T⟩
  split at h
  · rename_i e; subst e; cases h; exact ⟨_, _, (ok_do_goto T).mono (by decide), T.F_do_goto.kp, b_do_goto T⟩
  split at h
  · rename_i e; subst e; cases h; exact ⟨_, _, (ok_do_if T).mono (by decide), T.F_do_if.kp, b_do_if T⟩
  cases h
theorem row_all (T : Tp w K mg) (row : Row) : ∃ z f isR rest, row.items = .str z :: rest ∧ (if z = "take" then some (Value.ref T.f_do_take) else if z = "try" then some (.ref T.f_do_try) else if z = "let" then some (.ref T.f_do_let) else if z = "say" then some (.ref T.f_do_say) else if z = "goto" then some (.ref T.f_do_goto) else if z = "if" then some (.ref T.f_do_if) else none) = some (.ref f) ∧ rowS T f = some (spDo K T.C_Draft isR) ∧ isR row := by
  have n := T.nd2
  simp only [List.nodup_cons, List.mem_cons, List.not_mem_nil, or_false, not_or] at n
  have s12 : ("try" : Str) ≠ "take" := by decide +kernel
  have s13 : ("let" : Str) ≠ "take" := by decide +kernel
  have s14 : ("say" : Str) ≠ "take" := by decide +kernel
  have s15 : ("goto" : Str) ≠ "take" := by decide +kernel
  have s16 : ("if" : Str) ≠ "take" := by decide +kernel
  have s23 : ("let" : Str) ≠ "try" := by decide +kernel
  have s24 : ("say" : Str) ≠ "try" := by decide +kernel
  have s25 : ("goto" : Str) ≠ "try" := by decide +kernel
  have s26 : ("if" : Str) ≠ "try" := by decide +kernel
  have s34 : ("say" : Str) ≠ "let" := by decide +kernel
  have s35 : ("goto" : Str) ≠ "let" := by decide +kernel
  have s36 : ("if" : Str) ≠ "let" := by decide +kernel
  have s45 : ("goto" : Str) ≠ "say" := by decide +kernel
  have s46 : ("if" : Str) ≠ "say" := by decide +kernel
  have s56 : ("if" : Str) ≠ "goto" := by decide +kernel
  cases row with
  | take l => exact ⟨"take", _, _, _, rfl, if_pos rfl, if_pos rfl, ⟨l, rfl⟩⟩
  | tri =>
    refine ⟨"try", T.f_do_try, fun r => r = .tri, _, rfl, by rw [if_neg s12, if_pos rfl], ?_, rfl⟩
    unfold rowS
    rw [if_neg (fun z => n.1.1 z.symm), if_pos rfl]
  | let_ =>
    refine ⟨"let", T.f_do_let, fun r => r = .let_, _, rfl, by rw [if_neg s13, if_neg s23, if_pos rfl], ?_, rfl⟩
    unfold rowS
    rw [if_neg (fun z => n.1.2.1 z.symm), if_neg (fun z => n.2.1.1 z.symm), if_pos rfl]
  | say k =>
    refine ⟨"say", T.f_do_say, fun r => ∃ n, r = .say n, _, rfl, by rw [if_neg s14, if_neg s24, if_neg s34, if_pos rfl], ?_, ⟨k, rfl⟩⟩
    unfold rowS
    rw [if_neg (fun z => n.1.2.2.1 z.symm), if_neg (fun z => n.2.1.2.1 z.symm), if_neg (fun z => n.2.2.1.1 z.symm), if_pos rfl]
  | goto k =>
    refine ⟨"goto", T.f_do_goto, fun r => ∃ n, r = .goto n, _, rfl, by rw [if_neg s15, if_neg s25, if_neg s35, if_neg s45, if_pos rfl], ?_, ⟨k, rfl⟩⟩
    unfold rowS
    rw [if_neg (fun z => n.1.2.2.2.1 z.symm), if_neg (fun z => n.2.1.2.2.1 z.symm), if_neg (fun z => n.2.2.1.2.1 z.symm), if_neg (fun z => n.2.2.2.1.1 z.symm), if_pos rfl]
  | iff a k =>
    refine ⟨"if", T.f_do_if, fun r => ∃ a n, r = .iff a n, _, rfl, by rw [if_neg s16, if_neg s26, if_neg s36, if_neg s46, if_neg s56, if_pos rfl], ?_, ⟨a, k, rfl⟩⟩
    unfold rowS
    rw [if_neg (fun z => n.1.2.2.2.2 z.symm), if_neg (fun z => n.2.1.2.2.2 z.symm), if_neg (fun z => n.2.2.1.2.2 z.symm), if_neg (fun z => n.2.2.2.1.2 z.symm), if_neg (fun z => n.2.2.2.2.1 z.symm), if_pos rfl]
theorem ok_do_row (T : Tp w K mg) : FnOk P w K mg base CX0 5 T.f_do_row T.d_do_row ["draft", "hand"] (spHow K T.C_Draft fun h => h = .out ∨ h = .within) := by
  refine T.F_do_row.ok sc_do_row (fun vs H Q E h => ?_) (fun cdv A outer s H vs Q E hr h => ?_)
  · obtain ⟨A, d, s, h, r, rfl, _⟩ := h
    rfl
  obtain ⟨A, d, s, h, r, rfl, x, t, hn, hh, ok, hl, q⟩ := h
  have ok2 : rowOk s d h r := by
    unfold howOk at ok
    rcases hh with z | z <;> rw [z] at ok <;> exact ok
  have eq0 : doHow s d h r = doRow s d h r := by
    unfold doHow
    rcases hh with z | z <;> rw [z]
  rw [eq0] at q
  obtain ⟨rows, hrows, r0, r1, rl, act⟩ := ok2
  unfold doRow at q
  rw [hrows] at q
  dsimp only at q
  refine ⟨_, (pss_cons (ps_asg (pe_dget (hu_of hr) (pe_fldK (K := K) rfl (pv 0) rfl) (pv 1) (nosl fun _ _ => rfl)) (pg_tup rfl (pgs_cons (pg_name (i := 2) sc_do_row.nd rfl (Or.inl rfl)) (pgs_cons (pg_name (i := 3) sc_do_row.nd rfl (Or.inl rfl)) (pgs_cons (pg_name (i := 4) sc_do_row.nd rfl (Or.inl rfl)) (pgs_cons (pg_name (i := 5) sc_do_row.nd rfl (Or.inl rfl)) pgs_nil))))))
  (pss_cons (ps_set (i := 6) sc_do_row.nd rfl (Or.inl rfl) (pe_dget (hu_of hr) (pe_fldK (K := K) rfl (pv 0) rfl) (pv 1) (nosl fun _ _ => rfl)))
  (pss_cons (ps_if (pt_cmpR op_eq (pv 2) (pe_callB (lenK (K := K) rfl) rfl T.z_len PySem.boot_len (pa_cons (pv 6) pa_nil (star1 rfl)) (by decide) (by decide) (star1 rfl) (starAll rfl)) (nomark _)) (pss_one (ps_ret pe_str)) pss_nil)
  (pss_cons (ps_set (i := 7) sc_do_row.nd rfl (Or.inl rfl) (pe_ix (ixTK (K := K) rfl) (pv 6) (pv 2) (fun _ _ => rfl)))
  (pss_cons (ps_set (i := 8) sc_do_row.nd rfl (Or.inl rfl) (pe_ix ix_kdict (pe_glob (v := .ref T.a_ROWS) rfl T.c_ROWS rfl) (pe_ix (ixTK (K := K) rfl) (pv 7) pe_int (fun _ _ => rfl)) (fun _ _ => rfl)))
  (pss_one (ps_ret (pe_callA (S := rowS T) (rowHeld T) (hr.mono (by decide)) (i := 8) rfl (Or.inl rfl) (pa_cons (pv 0) (pa_cons (pv 1) (pa_cons (pv 7) pa_nil (star1 rfl)) (star1 rfl)) (star1 rfl)) (by decide) (by decide) (star1 rfl) (starAll rfl))))))))), ?_⟩
  refine q_getH T.dc x rfl rfl hn ?_
  obtain ⟨v, dg, a, xs, rfl, st, pd⟩ := t.pr.get hrows
  have len := paired_len pd
  refine q_asgP ?_
  refine ⟨_, rfl, A.q, _, A.dx, A.fields, _, rfl, x.ob, T.dc.cl, T.dc.pr, fld_pr, _, rfl, A.pr, _, rfl, dg, ?_⟩
  refine q_when (b := decide (r.row = (rows.length : Int))) (et_is (et_test (ev_eq (ev_var rfl) (ev_lenT (ev_var rfl) st) rfl)) (by
    rw [len]
    exact decide_eq_decide.mpr ⟨fun z => V.int.inj z, fun z => by rw [z]⟩)) (fun hb H1 e1 => ?_) (fun hb H1 e1 => ?_)
  · rw [if_pos (of_decide_eq_true hb)] at q
    exact s_ret ev_c fun H2 e2 => q H2 (x.ex (e1.trans e2)) (K4.ex (e1.trans e2))
  · have hb := of_decide_eq_false hb
    rw [if_neg hb] at q
    have hi : r.row.toNat < xs.length := by omega
    obtain ⟨row, hrow, b, hv, stb⟩ := NL.paired_get pd (List.getElem?_eq_getElem hi)
    rw [hrow] at q
    have x1 := x.ex e1
    refine q_asg (v := .ref b) (ev_ixT (v := .ref b) (ev_var rfl) (ev_var rfl) (ex_t e1 st) (by
      have z := at_nat (xs := xs) (i := r.row.toNat) (v := .ref b) (by rw [List.getElem?_eq_getElem hi, hv])
      have e : ((r.row.toNat : Nat) : Int) = r.row := by omega
      rw [e] at z
      exact z)) fun H2 e2 => ?_
    have e12 := e1.trans e2
    obtain ⟨z, f, isR, rest, hit, hf, hS, his⟩ := row_all T row
    refine q_asg (v := .ref f) (ev_op ev_c (ev_ixT (v := .str z) (ev_var rfl) ev_c (ex_t e12 stb) (by rw [hit]; exact at_nat (i := 0) rfl)) (rv_ixD T.D_ROWS hf)) fun H3 e3 => ?_
    have e13 := e12.trans e3
    refine s_retP ?_
    exact ⟨f, _, rfl, hS, _, rfl, _, rfl, _, rfl, A, d, s, h, r, .ref b, row, rfl, x.ex e13, t.k4 x (K4.ex e13), hn, ⟨b, rfl, ex_t e13 stb⟩, his, act row hrow, hl, fun H4 x4 k4 => q H4 x4 ((K4.ex e13).trans k4)⟩
theorem ok_do_tie (T : Tp w K mg) : FnOk P w K mg base CX0 1 T.f_do_tie T.d_do_tie ["draft", "hand"] (spHow K T.C_Draft fun h => h = .loose) := by
  refine T.F_do_tie.ok sc_do_tie (fun vs H Q E h => ?_) (fun cdv A outer s H vs Q E hr h => ?_)
  · obtain ⟨A, d, s, h, r, rfl, _⟩ := h
    rfl
  obtain ⟨A, d, s, h, r, rfl, x, t, hn, hh, ok, hl, q⟩ := h
  have eq0 : doHow s d h r = ((d.setH h ⟨r.row, r.last, .waits, r.looks⟩).tell (e2 "tied" h), none) := by
    unfold doHow
    rw [hh]
  rw [eq0] at q
  refine ⟨_, (pss_cons (ps_asg (pe_dget (hu_of hr) (pe_fldK (K := K) rfl (pv 0) rfl) (pv 1) (nosl fun _ _ => rfl)) (pg_tup rfl (pgs_cons (pg_name (i := 2) sc_do_tie.nd rfl (Or.inl rfl)) (pgs_cons (pg_name (i := 3) sc_do_tie.nd rfl (Or.inl rfl)) (pgs_cons (pg_name (i := 4) sc_do_tie.nd rfl (Or.inl rfl)) (pgs_cons (pg_name (i := 5) sc_do_tie.nd rfl (Or.inl rfl)) pgs_nil))))))
  (pss_cons (ps_dput (hu_of hr) (pe_fldK (K := K) rfl (pv 0) rfl) (pv 1) (pe_tup (pa_cons (pv 2) (pa_cons (pv 3) (pa_cons pe_str (pa_cons (pv 5) pa_nil (star1 rfl)) (star1 rfl)) (star1 rfl)) (star1 rfl))) rfl)
  (pss_cons (ps_expr (pe_bm PySem.F.plainAttrs_list PySem.F.slot_list_append PySem.F.type_list_append mt_append (pe_fldK (K := K) rfl (pv 0) rfl) (pa_cons (pe_tup (pa_cons pe_str (pa_cons (pv 1) pa_nil (star1 rfl)) (star1 rfl))) pa_nil (star1 rfl))))
  (pss_one (ps_ret pe_non))))), ?_⟩
  refine q_getH T.dc x rfl rfl hn ?_
  refine q_putH (r' := ⟨r.row, r.last, .waits, r.looks⟩) T.dc x rfl rfl hn (eu_tup (ea_cons (ev_var rfl) (ea_cons (ev_var rfl) (ea_cons ev_c (ea_cons (ev_var rfl) ea_nil)))) (by simp)) fun H1 x1 k1 => ?_
  refine q_tell (ds := [.str "tied", .str h]) T.dc x1 rfl (eu_tup (ea_cons ev_c (ea_cons (ev_var rfl) ea_nil)) (by simp)) (.cons rfl (.cons rfl .nil)) (by show d.told.length < _; omega) fun H2 x2 k2 => ?_
  exact s_ret ev_c fun H3 e3 => q H3 (x2.ex e3) ((k1.trans k2).trans (K4.ex e3))
theorem ok_do_look (T : Tp w K mg) : FnOk P w K mg base CX0 16 T.f_do_look T.d_do_look ["draft", "hand"] (spHow K T.C_Draft fun h => h = .waits) := by
  refine T.F_do_look.ok sc_do_look (fun vs H Q E h => ?_) (fun cdv A outer s H vs Q E hr h => ?_)
  · obtain ⟨A, d, s, h, r, rfl, _⟩ := h
    rfl
  obtain ⟨A, d, s, h, r, rfl, x, t, hn, hh, ok, hl, q⟩ := h
  unfold doHow at q
  rw [hh] at q
  unfold howOk at ok
  rw [hh] at ok
  dsimp only at q ok
  refine ⟨_, (pss_cons (ps_asg (pe_dget (hu_of hr) (pe_fldK (K := K) rfl (pv 0) rfl) (pv 1) (nosl fun _ _ => rfl)) (pg_tup rfl (pgs_cons (pg_name (i := 2) sc_do_look.nd rfl (Or.inl rfl)) (pgs_cons (pg_name (i := 3) sc_do_look.nd rfl (Or.inl rfl)) (pgs_cons (pg_name (i := 4) sc_do_look.nd rfl (Or.inl rfl)) (pgs_cons (pg_name (i := 5) sc_do_look.nd rfl (Or.inl rfl)) pgs_nil))))))
  (pss_cons (ps_if (pt_cmp (pc_isN (pv 5))) (pss_one (ps_ret pe_str)) pss_nil)
  (pss_cons (ps_if (pt_cmpR op_eq (pv 5) pe_int (nomark _)) (pss_one (ps_ret (pe_ifExp (pt_val (pe_call (ok_leave T) (hr.mono (by decide)) rfl T.m_leave T.F_leave.kp (b_leave T) .nil pass0 (pa_cons (pv 0) (pa_cons (pv 1) pa_nil (star1 rfl)) (star1 rfl)) (by decide) (star1 rfl) (starAll rfl))) pe_non pe_str))) pss_nil)
  (pss_cons (ps_dput (hu_of hr) (pe_fldK (K := K) rfl (pv 0) rfl) (pv 1) (pe_tup (pa_cons (pv 2) (pa_cons (pv 3) (pa_cons (pv 4) (pa_cons (pe_op op_sub (pv 5) pe_int) pa_nil (star1 rfl)) (star1 rfl)) (star1 rfl)) (star1 rfl))) rfl)
  (pss_cons (ps_expr (pe_bm PySem.F.plainAttrs_list PySem.F.slot_list_append PySem.F.type_list_append mt_append (pe_fldK (K := K) rfl (pv 0) rfl) (pa_cons (pe_tup (pa_cons pe_str (pa_cons (pv 1) pa_nil (star1 rfl)) (star1 rfl))) pa_nil (star1 rfl))))
  (pss_one (ps_ret pe_non))))))), ?_⟩
  refine q_getH T.dc x rfl rfl hn ?_
  cases hk : r.looks with
  | none =>
    rw [hk] at q
    refine q_when (b := true) (et_is (et_test (ev_isN (ev_var rfl))) rfl) (fun _ H1 e1 => ?_) (fun z => by cases z)
    exact s_ret ev_c fun H2 e2 => q H2 (x.ex (e1.trans e2)) (K4.ex (e1.trans e2))
  | some l =>
    rw [hk] at q ok
    dsimp only at q
    refine q_when (b := false) (et_is (et_test (ev_isN (ev_var rfl))) rfl) (fun z => by cases z) (fun _ H1 e1 => ?_)
    have x1 := x.ex e1
    refine q_when (b := decide (l = 0)) (et_is (et_test (ev_eq (ev_var rfl) ev_c rfl)) (decide_eq_decide.mpr ⟨fun z => V.int.inj z, fun z => by rw [z]; rfl⟩)) (fun hb H2 e2 => ?_) (fun hb H2 e2 => ?_)
    · have hb := of_decide_eq_true hb
      subst hb
      rw [if_pos rfl] at q
      obtain ⟨p, hp, hpl, lo⟩ := ok rfl
      have e12 := e1.trans e2
      refine s_retP ?_
      refine ⟨_, rfl, _, rfl, A, d, s, h, r, p, rfl, x.ex e12, t.k4 x (K4.ex e12), hn, hp, hpl, lo, fun H3 x3 k3 => ⟨_, rfl, ?_⟩⟩
      have q2 := q H3 x3 ((K4.ex e12).trans k3)
      cases hk2 : (leave s d h).2 with
      | true =>
        rw [hk2] at q2
        exact q2
      | false =>
        rw [hk2] at q2
        exact q2
    · rw [if_neg (of_decide_eq_false hb)] at q
      have x2 := x1.ex e2
      refine q_putH (r' := ⟨r.row, r.last, r.how, some (l - 1)⟩) T.dc x2 rfl rfl hn (eu_tup (ea_cons (ev_var rfl) (ea_cons (ev_var rfl) (ea_cons (ev_var rfl) (ea_cons (ev_I0 (ev_var rfl) ev_c) ea_nil)))) (by simp)) fun H3 x3 k3 => ?_
      refine q_tell (ds := [.str "looked", .str h]) T.dc x3 rfl (eu_tup (ea_cons ev_c (ea_cons (ev_var rfl) ea_nil)) (by simp)) (.cons rfl (.cons rfl .nil)) (by show d.told.length < _; omega) fun H4 x4 k4 => ?_
      rw [hh] at x4
      exact s_ret ev_c fun H5 e5 => q H5 (x4.ex e5) ((((K4.ex (e1.trans e2)).trans k3).trans k4).trans (K4.ex e5))
end
/-! ### a house steps -/
def spDInit (K : PySem.W.Frag) (CD CH : Addr) : Sp := fun vs H Q _ => ∃ (q dx : Addr) (B : HoA) (s : Sta) (x : SH), vs = [.ref q, .ref B.p] ∧ H q = some (.ins CD dx []) ∧ B.p ≠ q ∧ HoR K CH H B s x ∧
  ∀ A H', A.q = q → A.pa = B.pa → A.bo = B.bo → A.pr = B.pr → DrAt K CD H' A (draftOf x) → StAt K H' A s → Kp q q H H' → H A.hd = none → H A.gd = none → H A.tl = none → H A.fl = none → Q .non H'
def spDrafted (K : PySem.W.Frag) (CD CH : Addr) : Sp := fun vs H Q _ => ∃ (B : HoA) (s : Sta) (x : SH) (h : Str) (r : HR), vs = [.ref B.p, .str h] ∧ HoR K CH H B s x ∧ getN x.hs h = some r ∧ howOk s (draftOf x) h r ∧
  ∀ A H', Ex H H' → H A.q = none → H A.hd = none → H A.gd = none → DrAt K CD H' A (drafted s x h) → Q (.ref A.q) H'
def spStep (K : PySem.W.Frag) (CD CH : Addr) : Sp := fun vs H Q _ => ∃ (B : HoA) (s : Sta) (x : SH) (h : Str) (r : HR), vs = [.ref B.p, .str h] ∧ HoAt K CH H B s x ∧ getN x.hs h = some r ∧ howOk s (draftOf x) h r ∧ (stepP s x h).2.length ≤ 90000 ∧
  ∀ B' v H', B.same B' → HoAt K CH H' B' s (stepP s x h).1 → Kp B.p B.p H H' → EvsV K H' v (stepP s x h).2 → H B'.hd = none ∧ H B'.gd = none ∧ B'.hd ≠ B'.gd → Q v H'
section
variable {P : Program} {w : World} {K : PySem.W.Frag} {mg : Str → Option Value} {base : Heap}
theorem ok_Draft___init__ (T : Tp w K mg) : FnOk P w K mg base CX0 1 T.f_Draft___init__ T.d_Draft___init__ ["self", "house"] (spDInit K T.C_Draft T.C_House) := by
  refine T.F_Draft___init__.ok sc_Draft___init__ (fun vs H Q E h => ?_) (fun cdv A outer s H vs Q E hr h => ?_)
  · obtain ⟨q, dx, B, s, x, rfl, _⟩ := h
    rfl
  obtain ⟨q, dx, B, s, x, rfl, hq, ne, ho, k⟩ := h
  refine ⟨_, (pss_cons (ps_fld (pv 0) (pe_fldK (K := K) rfl (pv 1) rfl) rfl)
  (pss_cons (ps_fld (pv 0) (pe_fldK (K := K) rfl (pv 1) rfl) rfl)
  (pss_cons (ps_fld (pv 0) (pe_fldK (K := K) rfl (pv 1) rfl) rfl)
  (pss_cons (ps_fld (pv 0) (pe_callTy call_dictD rfl T.z_dict (by decide +kernel) (pa_cons (pe_fldK (K := K) rfl (pv 1) rfl) pa_nil (star1 rfl)) (by decide) (by decide) (star1 rfl) (starAll rfl)) rfl)
  (pss_cons (ps_fld (pv 0) (pe_callTy call_dictD rfl T.z_dict (by decide +kernel) (pa_cons (pe_fldK (K := K) rfl (pv 1) rfl) pa_nil (star1 rfl)) (by decide) (by decide) (star1 rfl) (starAll rfl)) rfl)
  (pss_cons (ps_fld (pv 0) (pe_lst pa_nil) rfl)
  (pss_one (ps_fld (pv 0) (pe_lst pa_nil) rfl)))))))), ?_⟩
  have nx := T.dc
  refine q_fld ⟨_, rfl, B.p, _, B.dx, B.fields, _, rfl, ho.ob, T.cl_House, T.na_House_paths, hf_pa, _, rfl, q, _, dx, [], rfl, hq, nx.cl, nx.pa, (by show 0 < 1000; decide), ?_⟩
  have k1 : Kp q q H (upd H q (.ins T.C_Draft dx [("paths", .ref B.pa)])) := (Kp.refl q q H).ins
  have h1 : upd H q (.ins T.C_Draft dx (putF "paths" (.ref B.pa) [])) q = some (.ins T.C_Draft dx [("paths", .ref B.pa)]) := upd_same
  have ho1 : HoR K T.C_House (upd H q (.ins T.C_Draft dx [("paths", .ref B.pa)])) B s x := ho.kp hq ne k1
  change Kp q q H (upd H q (.ins T.C_Draft dx (putF "paths" (.ref B.pa) []))) at k1
  change HoR K T.C_House (upd H q (.ins T.C_Draft dx (putF "paths" (.ref B.pa) []))) B s x at ho1
  generalize upd H q (.ins T.C_Draft dx (putF "paths" (.ref B.pa) [])) = H1 at k1 h1 ho1 ⊢
  refine q_fld ⟨_, rfl, B.p, _, B.dx, B.fields, _, rfl, ho1.ob, T.cl_House, T.na_House_bounds, hf_bo, _, rfl, q, _, dx, _, rfl, h1, nx.cl, nx.bo, (by show 1 < 1000; decide), ?_⟩
  have k2 : Kp q q H (upd H1 q (.ins T.C_Draft dx (putF "bounds" (.ref B.bo) [("paths", .ref B.pa)]))) := k1.ins
  have h2 : upd H1 q (.ins T.C_Draft dx (putF "bounds" (.ref B.bo) [("paths", .ref B.pa)])) q = some (.ins T.C_Draft dx [("paths", .ref B.pa), ("bounds", .ref B.bo)]) := by rw [upd_same]; rfl
  have ho2 := ho1.kp h1 ne ((Kp.refl q q H1).ins (o := .ins T.C_Draft dx (putF "bounds" (.ref B.bo) [("paths", .ref B.pa)])))
  generalize upd H1 q (.ins T.C_Draft dx (putF "bounds" (.ref B.bo) [("paths", .ref B.pa)])) = H2 at k2 h2 ho2 ⊢
  refine q_fld ⟨_, rfl, B.p, _, B.dx, B.fields, _, rfl, ho2.ob, T.cl_House, T.na_House_programs, hf_pr, _, rfl, q, _, dx, _, rfl, h2, nx.cl, nx.pr, (by show 2 < 1000; decide), ?_⟩
  have k3 : Kp q q H (upd H2 q (.ins T.C_Draft dx (putF "programs" (.ref B.pr) [("paths", .ref B.pa), ("bounds", .ref B.bo)]))) := k2.ins
  have h3 : upd H2 q (.ins T.C_Draft dx (putF "programs" (.ref B.pr) [("paths", .ref B.pa), ("bounds", .ref B.bo)])) q = some (.ins T.C_Draft dx [("paths", .ref B.pa), ("bounds", .ref B.bo), ("programs", .ref B.pr)]) := by rw [upd_same]; rfl
  have ho3 := ho2.kp h2 ne ((Kp.refl q q H2).ins (o := .ins T.C_Draft dx (putF "programs" (.ref B.pr) [("paths", .ref B.pa), ("bounds", .ref B.bo)])))
  generalize upd H2 q (.ins T.C_Draft dx (putF "programs" (.ref B.pr) [("paths", .ref B.pa), ("bounds", .ref B.bo)])) = H3 at k3 h3 ho3 ⊢
  -- the hands, copied
  obtain ⟨kv1, d1, p1, l1⟩ := id ho3.hs
  refine q_fld ⟨_, rfl, B.p, _, B.dx, B.fields, _, rfl, ho3.ob, T.cl_House, T.na_House_hands, hf_hd, B.hd, kv1, rfl, d1, fun hd nhd => ?_⟩
  have e4 := Ex.new (o := .dK kv1) nhd
  have nhq : hd ≠ q := fun z => by rw [z, h3] at nhd; cases nhd
  have h4' := e4 _ _ h3
  have ho4' := ho3.ex e4
  have dh4' : Dm (HV K (upd H3 hd (.dK kv1))) (upd H3 hd (.dK kv1)) hd x.hs := ⟨kv1, upd_same, paired_mono (fun _ _ z => ⟨z.1, z.2.st (ST.ex e4)⟩) p1, l1⟩
  have k4' : Kp q q H (upd H3 hd (.dK kv1)) := k3.trans (Kp.ex e4)
  have hdH : H hd = none := by
    cases z : H hd with
    | none => rfl
    | some o => rw [k3 hd o nhq nhq z] at nhd; cases nhd
  generalize upd H3 hd (.dK kv1) = H4' at h4' ho4' dh4' k4' ⊢
  refine ⟨_, rfl, q, _, dx, _, rfl, h4', nx.cl, nx.hd, (by show 3 < 1000; decide), ?_⟩
  have kk4 : Kp q q H4' (upd H4' q (.ins T.C_Draft dx (putF "hands" (.ref hd) [("paths", .ref B.pa), ("bounds", .ref B.bo), ("programs", .ref B.pr)]))) := (Kp.refl q q H4').ins
  have k4 := k4'.trans kk4
  have h4 : upd H4' q (.ins T.C_Draft dx (putF "hands" (.ref hd) [("paths", .ref B.pa), ("bounds", .ref B.bo), ("programs", .ref B.pr)])) q = some (.ins T.C_Draft dx [("paths", .ref B.pa), ("bounds", .ref B.bo), ("programs", .ref B.pr), ("hands", .ref hd)]) := by rw [upd_same]; rfl
  have ho4 := ho4'.kp h4' ne kk4
  have dh4 := dh4'.st (fun o z => kk4 _ _ nhq nhq z) (fun _ _ z => z.st (st_ins h4' kk4))
  generalize upd H4' q (.ins T.C_Draft dx (putF "hands" (.ref hd) [("paths", .ref B.pa), ("bounds", .ref B.bo), ("programs", .ref B.pr)])) = H4 at k4 h4 ho4 dh4 ⊢
  clear kk4 ho4' h4' dh4' k4' ho1 ho2 ho3 h1 h2 h3 k1 k2 k3 p1 d1 l1
  -- the groups, copied
  obtain ⟨kv2, d2, p2, l2⟩ := id ho4.gs
  refine q_fld ⟨_, rfl, B.p, _, B.dx, B.fields, _, rfl, ho4.ob, T.cl_House, T.na_House_groups, hf_gd, B.gd, kv2, rfl, Or.inl d2, fun gd ngd => ?_⟩
  have e5 := Ex.new (o := .dK kv2) ngd
  have ngq : gd ≠ q := fun z => by rw [z, h4] at ngd; cases ngd
  have nhg : hd ≠ gd := fun z => by
    obtain ⟨kv, y⟩ := dh4.dk
    rw [z, ngd] at y
    cases y
  have h5' := e5 _ _ h4
  have ho5' := ho4.ex e5
  have dg5' : Dm (GV K (upd H4 gd (.dK kv2))) (upd H4 gd (.dK kv2)) gd x.gs := ⟨kv2, upd_same, paired_mono (fun _ _ z => ⟨z.1, z.2.st (ST.ex e5)⟩) p2, l2⟩
  have dh5' := dh4.st (fun o z => e5 _ _ z) (fun _ _ z => z.st (ST.ex e5))
  have k5' : Kp q q H (upd H4 gd (.dK kv2)) := k4.trans (Kp.ex e5)
  have gdH : H gd = none := by
    cases z : H gd with
    | none => rfl
    | some o => rw [k4 gd o ngq ngq z] at ngd; cases ngd
  generalize upd H4 gd (.dK kv2) = H5' at h5' ho5' dg5' dh5' k5' ⊢
  refine ⟨_, rfl, q, _, dx, _, rfl, h5', nx.cl, nx.gd, (by show 4 < 1000; decide), ?_⟩
  have kk5 : Kp q q H5' (upd H5' q (.ins T.C_Draft dx (putF "groups" (.ref gd) [("paths", .ref B.pa), ("bounds", .ref B.bo), ("programs", .ref B.pr), ("hands", .ref hd)]))) := (Kp.refl q q H5').ins
  have k5 := k5'.trans kk5
  have h5 : upd H5' q (.ins T.C_Draft dx (putF "groups" (.ref gd) [("paths", .ref B.pa), ("bounds", .ref B.bo), ("programs", .ref B.pr), ("hands", .ref hd)])) q = some (.ins T.C_Draft dx [("paths", .ref B.pa), ("bounds", .ref B.bo), ("programs", .ref B.pr), ("hands", .ref hd), ("groups", .ref gd)]) := by rw [upd_same]; rfl
  have ho5 := ho5'.kp h5' ne kk5
  have dh5 := dh5'.st (fun o z => kk5 _ _ nhq nhq z) (fun _ _ z => z.st (st_ins h5' kk5))
  have dg5 := dg5'.st (fun o z => kk5 _ _ ngq ngq z) (fun _ _ z => z.st (st_ins h5' kk5))
  generalize upd H5' q (.ins T.C_Draft dx (putF "groups" (.ref gd) [("paths", .ref B.pa), ("bounds", .ref B.bo), ("programs", .ref B.pr), ("hands", .ref hd)])) = H5 at k5 h5 ho5 dh5 dg5 ⊢
  clear kk5 ho5' h5' dg5' dh5' k5' ho4 h4 dh4 k4 p2 d2 l2
  -- told, firsts
  refine q_fld ⟨(by show 0 ≤ sizeLine; decide), fun tl ntl => ⟨_, rfl, q, _, dx, _, rfl, Ex.new ntl _ _ h5, nx.cl, nx.tl, (by show 5 < 1000; decide), ?_⟩⟩
  have e6 := Ex.new (o := .lst []) ntl
  have ntq : tl ≠ q := fun z => by rw [z, h5] at ntl; cases ntl
  have h6' := e6 _ _ h5
  have kk6 : Kp q q (upd H5 tl (.lst [])) (upd (upd H5 tl (.lst [])) q (.ins T.C_Draft dx (putF "told" (.ref tl) [("paths", .ref B.pa), ("bounds", .ref B.bo), ("programs", .ref B.pr), ("hands", .ref hd), ("groups", .ref gd)]))) := (Kp.refl q q _).ins
  have k6 := (k5.trans (Kp.ex e6)).trans kk6
  have h6 : upd (upd H5 tl (.lst [])) q (.ins T.C_Draft dx (putF "told" (.ref tl) [("paths", .ref B.pa), ("bounds", .ref B.bo), ("programs", .ref B.pr), ("hands", .ref hd), ("groups", .ref gd)])) q = some (.ins T.C_Draft dx [("paths", .ref B.pa), ("bounds", .ref B.bo), ("programs", .ref B.pr), ("hands", .ref hd), ("groups", .ref gd), ("told", .ref tl)]) := by rw [upd_same]; rfl
  have t6 : upd (upd H5 tl (.lst [])) q (.ins T.C_Draft dx (putF "told" (.ref tl) [("paths", .ref B.pa), ("bounds", .ref B.bo), ("programs", .ref B.pr), ("hands", .ref hd), ("groups", .ref gd)])) tl = some (.lst []) := by rw [upd_ne ntq]; exact upd_same
  have ho6 := (ho5.ex e6).kp h6' ne kk6
  have st6 := (ST.ex (K := K) e6).trans (st_ins h6' kk6)
  have dh6 := dh5.st (fun o z => kk6 _ _ nhq nhq (e6 _ _ z)) (fun _ _ z => z.st st6)
  have dg6 := dg5.st (fun o z => kk6 _ _ ngq ngq (e6 _ _ z)) (fun _ _ z => z.st st6)
  have tlH : H tl = none := by
    cases z : H tl with
    | none => rfl
    | some o => rw [k5 tl o ntq ntq z] at ntl; cases ntl
  generalize upd (upd H5 tl (.lst [])) q (.ins T.C_Draft dx (putF "told" (.ref tl) [("paths", .ref B.pa), ("bounds", .ref B.bo), ("programs", .ref B.pr), ("hands", .ref hd), ("groups", .ref gd)])) = H6 at k6 h6 t6 ho6 dh6 dg6 ⊢
  clear kk6 st6 h6' ho5 h5 dh5 dg5 k5
  refine s_fld ⟨(by show 0 ≤ sizeLine; decide), fun fl nfl => ⟨_, rfl, q, _, dx, _, rfl, Ex.new nfl _ _ h6, nx.cl, nx.fl, (by show 6 < 1000; decide), ?_⟩⟩
  have e7 := Ex.new (o := .lst []) nfl
  have nfq : fl ≠ q := fun z => by rw [z, h6] at nfl; cases nfl
  have ntf : tl ≠ fl := fun z => by rw [z, nfl] at t6; cases t6
  have h7' := e7 _ _ h6
  have kk7 : Kp q q (upd H6 fl (.lst [])) (upd (upd H6 fl (.lst [])) q (.ins T.C_Draft dx (putF "firsts" (.ref fl) [("paths", .ref B.pa), ("bounds", .ref B.bo), ("programs", .ref B.pr), ("hands", .ref hd), ("groups", .ref gd), ("told", .ref tl)]))) := (Kp.refl q q _).ins
  have k7 := (k6.trans (Kp.ex e7)).trans kk7
  have h7 : upd (upd H6 fl (.lst [])) q (.ins T.C_Draft dx (putF "firsts" (.ref fl) [("paths", .ref B.pa), ("bounds", .ref B.bo), ("programs", .ref B.pr), ("hands", .ref hd), ("groups", .ref gd), ("told", .ref tl)])) q = some (.ins T.C_Draft dx [("paths", .ref B.pa), ("bounds", .ref B.bo), ("programs", .ref B.pr), ("hands", .ref hd), ("groups", .ref gd), ("told", .ref tl), ("firsts", .ref fl)]) := by rw [upd_same]; rfl
  have ho7 := (ho6.ex e7).kp h7' ne kk7
  have st7 := (ST.ex (K := K) e7).trans (st_ins h7' kk7)
  have f7 : upd (upd H6 fl (.lst [])) q (.ins T.C_Draft dx (putF "firsts" (.ref fl) [("paths", .ref B.pa), ("bounds", .ref B.bo), ("programs", .ref B.pr), ("hands", .ref hd), ("groups", .ref gd), ("told", .ref tl)])) fl = some (.lst []) := by rw [upd_ne nfq]; exact upd_same
  have flH : H fl = none := by
    cases z : H fl with
    | none => rfl
    | some o => rw [k6 fl o nfq nfq z] at nfl; cases nfl
  have ne1 : ∀ {α : Type} {R : V → α → Prop} {d : Addr} {ys : List (Str × α)}, Dm R H d ys → d ≠ hd ∧ d ≠ gd := fun dm => by
    obtain ⟨kv, y⟩ := dm.dk
    exact ⟨(fun z => by rw [z, hdH] at y; cases y), (fun z => by rw [z, gdH] at y; cases y)⟩
  exact k ⟨q, dx, B.pa, B.bo, B.pr, hd, gd, tl, fl⟩ _ rfl rfl rfl rfl ⟨h7, dh6.st (fun o z => kk7 _ _ nhq nhq (e7 _ _ z)) (fun _ _ z => z.st st7), dg6.st (fun o z => kk7 _ _ ngq ngq (e7 _ _ z)) (fun _ _ z => z.st st7), ⟨[], kk7 _ _ ntq ntq (e7 _ _ t6), .nil, Nat.zero_le _⟩, ⟨f7, Nat.zero_le _⟩, nhg, ntf⟩
    ⟨ho7.pa, ho7.bo, ho7.pr, (ne1 ho.pa).1, (ne1 ho.pa).2, (ne1 ho.bo).1, (ne1 ho.bo).2, (ne1 ho.pr).1, (ne1 ho.pr).2⟩ k7 hdH gdH tlH flH
end
/-! ### a step worked out, and done -/
section
variable {P : Program} {w : World} {K : PySem.W.Frag} {mg : Str → Option Value} {base : Heap}
def howS (T : Tp w K mg) : Addr → Option Sp := fun f =>
  if f = T.f_do_row then some (spHow K T.C_Draft fun h => h = .out ∨ h = .within) else if f = T.f_do_tie then some (spHow K T.C_Draft fun h => h = .loose) else if f = T.f_do_look then some (spHow K T.C_Draft fun h => h = .waits) else none
theorem howHeld (T : Tp w K mg) : ∀ f sp, howS T f = some sp → Held P w K mg base (17 - 1) f sp := by
  intro f sp h
  unfold howS at h
  split at h
  · rename_i e; subst e; cases h; exact ⟨_, _, (ok_do_row T).mono (by decide), T.F_do_row.kp, b_do_row T⟩
  split at h
  · rename_i e; subst e; cases h; exact ⟨_, _, (ok_do_tie T).mono (by decide), T.F_do_tie.kp, b_do_tie T⟩
  split at h
  · rename_i e; subst e; cases h; exact ⟨_, _, (ok_do_look T).mono (by decide), T.F_do_look.kp, b_do_look T⟩
  cases h
theorem how_all (T : Tp w K mg) (h : How) : ∃ f isH, (if h.str = "out" then some (Value.ref T.f_do_row) else if h.str = "loose" then some (.ref T.f_do_tie) else if h.str = "waits" then some (.ref T.f_do_look) else if h.str = "within" then some (.ref T.f_do_row) else none) = some (.ref f) ∧ howS T f = some (spHow K T.C_Draft isH) ∧ isH h := by
  have n := T.nd3
  simp only [List.nodup_cons, List.mem_cons, List.not_mem_nil, or_false, not_or] at n
  have s1 : How.str .loose ≠ "out" := by decide +kernel
  have s2 : How.str .waits ≠ "out" := by decide +kernel
  have s3 : How.str .within ≠ "out" := by decide +kernel
  have s4 : How.str .waits ≠ "loose" := by decide +kernel
  have s5 : How.str .within ≠ "loose" := by decide +kernel
  have s6 : How.str .within ≠ "waits" := by decide +kernel
  cases h with
  | out => exact ⟨T.f_do_row, _, if_pos rfl, if_pos rfl, Or.inl rfl⟩
  | loose =>
    refine ⟨T.f_do_tie, fun h => h = .loose, by rw [if_neg s1]; exact if_pos rfl, ?_, rfl⟩
    unfold howS
    rw [if_neg (fun z => n.1.1 z.symm), if_pos rfl]
  | waits =>
    refine ⟨T.f_do_look, fun h => h = .waits, by rw [if_neg s2, if_neg s4]; exact if_pos rfl, ?_, rfl⟩
    unfold howS
    rw [if_neg (fun z => n.1.2 z.symm), if_neg (fun z => n.2.1 z.symm), if_pos rfl]
  | within => exact ⟨T.f_do_row, _, by rw [if_neg s3, if_neg s5, if_neg s6]; exact if_pos rfl, if_pos rfl, Or.inr rfl⟩
/-- a new draft of a house -/
theorem mk_draft (T : Tp w K mg) {B : HoA} {s : Sta} {x : SH} {H : Hp} {Q : VK} (ho : HoR K T.C_House H B s x) (k : ∀ A H', Ex H H' → H A.q = none → H A.hd = none → H A.gd = none → H A.tl = none → H A.fl = none → DrAt K T.C_Draft H' A (draftOf x) → StAt K H' A s → Q (.ref A.q) H') :
    ∀ q dx, H q = none → H dx = none → dx ≠ q → spDInit K T.C_Draft T.C_House [.ref q, .ref B.p] (upd (upd H dx (.own q)) q (.ins T.C_Draft dx [])) (fun v H2 => v = .non ∧ Q (.ref q) H2) E0 := by
  intro q dx nq nd ne
  have e1 := Ex.new (o := .own q) nd
  have nq1 : upd H dx (.own q) q = none := by rw [upd_ne (Ne.symm ne)]; exact nq
  have e2 := Ex.new (o := .ins T.C_Draft dx []) nq1
  have e := e1.trans e2
  have np : B.p ≠ q := fun z => by
    have := ho.ob
    rw [z, nq] at this
    cases this
  refine ⟨q, dx, B, s, x, rfl, upd_same, np, ho.ex e, fun A H' a1 a2 a3 a4 dr st kp n1 n2 n3 n4 => ⟨rfl, ?_⟩⟩
  subst a1
  refine k A H' (fun a o z => ?_) nq (fresh_back e n1) (fresh_back e n2) (fresh_back e n3) (fresh_back e n4) dr st
  have : a ≠ A.q := fun y => by
    rw [y, nq] at z
    cases z
  exact kp a o this this (e a o z)
theorem q_mkDraft (T : Tp w K mg) {B : HoA} {s : Sta} {x : SH} {H : Hp} {σ : L2.St} {tz : TS} {D : Ends} {i j : Nat} (e : σ[j]? = some (some (.ref B.p))) (ho : HoR K T.C_House H B s x)
    (k : ∀ A H', Ex H H' → H A.q = none → H A.hd = none → H A.gd = none → H A.tl = none → H A.fl = none → DrAt K T.C_Draft H' A (draftOf x) → StAt K H' A s → tz D (σ.set i (some (.ref A.q))) H') : tSeq (tAsg (tMake T.C_Draft (spDInit K T.C_Draft T.C_House) [] E0 (tCons (tVar j) tNil)) (gName i)) tz D σ H :=
  ⟨_, e, mk_draft T (Q := fun v H' => tz D (σ.set i (some v)) H') ho k⟩
/-- what the draft's own are not, stays -/
theorem ex_k4 {A : DrA} {H H1 H2 : Hp} (e : Ex H H1) (k : K4 A H1 H2) (n1 : H A.hd = none) (n2 : H A.gd = none) (n3 : H A.tl = none) (n4 : H A.fl = none) : Ex H H2 := fun a o z =>
  k a o (fun y => by rw [y, n1] at z; cases z) (fun y => by rw [y, n2] at z; cases z) (fun y => by rw [y, n3] at z; cases z) (fun y => by rw [y, n4] at z; cases z) (e a o z)
theorem ok_drafted (T : Tp w K mg) : FnOk P w K mg base CX0 17 T.f_drafted T.d_drafted ["house", "name"] (spDrafted K T.C_Draft T.C_House) := by
  refine T.F_drafted.ok sc_drafted (fun vs H Q E h => ?_) (fun cdv A outer s H vs Q E hr h => ?_)
  · obtain ⟨B, s, x, h, r, rfl, _⟩ := h
    rfl
  obtain ⟨B, s, x, h, r, rfl, ho, hn, ok, q⟩ := h
  refine ⟨_, (pss_cons (ps_if (pt_not (pt_val (pe_call (ok_is_known T) (hr.mono (by decide)) rfl T.m_is_known T.F_is_known.kp (b_is_known T) .nil pass0 (pa_cons (pv 1) (pa_cons (pe_fldK (K := K) rfl (pv 0) rfl) pa_nil (star1 rfl)) (star1 rfl)) (by decide) (star1 rfl) (starAll rfl)))) (pss_one ps_never) pss_nil)
  (pss_cons (ps_set (i := 2) sc_drafted.nd rfl (Or.inl rfl) (pe_make T.mk_Draft (ok_Draft___init__ T) (hr.mono (by decide)) rfl T.mc_Draft (b_Draft___init__ T) .nil pass0 (pa_cons (pv 0) pa_nil (star1 rfl)) (by decide) (star1 rfl) (starAll rfl)))
  (pss_cons (ps_asg (pe_dget (hu_of hr) (pe_fldK (K := K) rfl (pv 2) rfl) (pv 1) (nosl fun _ _ => rfl)) (pg_tup rfl (pgs_cons (pg_name (i := 3) sc_drafted.nd rfl (Or.inl rfl)) (pgs_cons (pg_name (i := 4) sc_drafted.nd rfl (Or.inl rfl)) (pgs_cons (pg_name (i := 5) sc_drafted.nd rfl (Or.inl rfl)) (pgs_cons (pg_name (i := 6) sc_drafted.nd rfl (Or.inl rfl)) pgs_nil))))))
  (pss_cons (ps_set (i := 7) sc_drafted.nd rfl (Or.inl rfl) (pe_ix ix_kdict (pe_glob (v := .ref T.a_HOWS) rfl T.c_HOWS rfl) (pv 5) (fun _ _ => rfl)))
  (pss_cons (ps_set (i := 8) sc_drafted.nd rfl (Or.inl rfl) (pe_callA (S := howS T) (howHeld T) (hr.mono (by decide)) (i := 7) rfl (Or.inl rfl) (pa_cons (pv 2) (pa_cons (pv 1) pa_nil (star1 rfl)) (star1 rfl)) (by decide) (by decide) (star1 rfl) (starAll rfl)))
  (pss_cons (ps_if (pt_cmp (pc_isN (pv 8))) (pss_one (ps_ret (pv 2))) pss_nil)
  (pss_cons (ps_set (i := 9) sc_drafted.nd rfl (Or.inl rfl) (pe_make T.mk_Draft (ok_Draft___init__ T) (hr.mono (by decide)) rfl T.mc_Draft (b_Draft___init__ T) .nil pass0 (pa_cons (pv 0) pa_nil (star1 rfl)) (by decide) (star1 rfl) (starAll rfl)))
  (pss_cons (ps_fld (pv 9) (pe_fldK (K := K) rfl (pv 2) rfl) rfl)
  (pss_cons (ps_expr (pe_bm PySem.F.plainAttrs_list PySem.F.slot_list_append PySem.F.type_list_append mt_append (pe_fldK (K := K) rfl (pv 9) rfl) (pa_cons (pe_tup (pa_cons pe_str (pa_cons (pv 1) (pa_cons (pv 8) pa_nil (star1 rfl)) (star1 rfl)) (star1 rfl))) pa_nil (star1 rfl))))
  (pss_one (ps_ret (pv 9)))))))))))), ?_⟩
  -- is it known
  refine q_notB ?_
  obtain ⟨kvs, v0, hd0, hv0, _⟩ := dmr_some ho.hs hn
  refine ⟨_, rfl, _, rfl, B.p, _, B.dx, B.fields, _, rfl, ho.ob, T.cl_House, T.na_House_hands, hf_hd, .str h, .str h, B.hd, kvs, rfl, .str h, hd0, fun H1 e1 => ⟨_, rfl, ?_⟩⟩
  refine iteF' (by show (!(valV kvs (.inr h)).isSome) = false; rw [hv0]; rfl) ?_
  have ho1 := ho.ex e1
  -- draft = Draft(house)
  refine q_mkDraft T rfl ho1 fun A H2 e2 nq nhd ngd ntl nfl x2 t2 => ?_
  have e12 := e1.trans e2
  have bk : ∀ {a : Addr}, H1 a = none → H a = none := fun z => fresh_back e1 z
  refine q_getH (r := r) T.dc x2 rfl rfl hn ?_
  obtain ⟨f, isH, hf, hS, his⟩ := how_all T r.how
  refine q_asg (v := .ref f) (ev_op ev_c (ev_var rfl) (rv_ixD T.D_HOWS hf)) fun H3 e3 => ?_
  refine q_asgP ?_
  refine ⟨f, _, rfl, hS, _, rfl, _, rfl, A, draftOf x, s, h, r, rfl, x2.ex e3, t2.k4 x2 (K4.ex e3), hn, his, ok, Nat.zero_le _, fun H4 x4 k4 => ?_⟩
  have e14 : Ex H1 H4 := ex_k4 (e2.trans e3) k4 nhd ngd ntl nfl
  have de : drafted s x h = (match doHow s (draftOf x) h r with
    | (d, none) => d
    | (d, some w) => ⟨x.hs, x.gs, [.tuple [.str "idle", .str h, .str w]], d.firsts⟩) := by
    unfold drafted
    rw [hn]
    all_goals try dsimp only
    all_goals (generalize doHow s (draftOf x) h r = pr; obtain ⟨d, o⟩ := pr; cases o <;> rfl)
  generalize hdr : doHow s (draftOf x) h r = pr at x4 de
  obtain ⟨d, o⟩ := pr
  cases o with
  | none =>
    dsimp only at de x4
    refine q_when (b := true) (et_is (et_test (ev_isN (ev_var rfl))) rfl) (fun _ H5 e5 => ?_) (fun z => by cases z)
    refine s_ret (ev_var rfl) fun H6 e6 => ?_
    refine q A H6 ((e1.trans e14).trans (e5.trans e6)) (bk nq) (bk nhd) (bk ngd) ?_
    rw [de]
    exact x4.ex (e5.trans e6)
  | some why =>
    dsimp only at de x4
    refine q_when (b := false) (et_is (et_test (ev_isN (ev_var rfl))) rfl) (fun z => by cases z) (fun _ H5 e5 => ?_)
    have e15 := e14.trans e5
    have ho5 := ho1.ex e15
    have x5 := x4.ex e5
    refine q_mkDraft T rfl ho5 fun A2 H6 e6 nq2 nhd2 ngd2 ntl2 nfl2 x6 t6 => ?_
    have x56 := x5.ex e6
    -- idle.firsts = draft.firsts
    refine q_fld ⟨_, rfl, A.q, _, A.dx, A.fields, _, rfl, x56.ob, T.dc.cl, T.dc.fl, fld_fl, _, rfl, A2.q, _, A2.dx, A2.fields, rfl, x6.ob, T.dc.cl, T.dc.fl, (by show 7 < 1000; decide), ?_⟩
    have kk : Kp A2.q A2.q H6 (upd H6 A2.q (.ins T.C_Draft A2.dx (putF "firsts" (.ref A.fl) A2.fields))) := Kp.ins (Kp.refl _ _ H6)
    have hq7 : upd H6 A2.q (.ins T.C_Draft A2.dx (putF "firsts" (.ref A.fl) A2.fields)) A2.q = some (.ins T.C_Draft A2.dx (DrA.fields { A2 with fl := A.fl })) := by rw [upd_same]; rfl
    have st7 := st_ins (K := K) x6.ob kk
    have nq3 : ∀ {a : Addr} {o : HO}, H6 a = some o → (∀ c dx fs, o ≠ .ins c dx fs) → a ≠ A2.q := fun {a o} z n y => by
      rw [y, x6.ob] at z
      cases z
      exact n _ _ _ rfl
    obtain ⟨k1, y1⟩ := x6.hs.dk
    obtain ⟨k2, y2⟩ := x6.gs.dk
    obtain ⟨vs, z1, z2, z3⟩ := x6.tl
    have fl5 := x5.fl
    have fl6 := e6 _ _ fl5.1
    have go : ∀ {a : Addr} {o : HO}, a ≠ A2.q → H6 a = some o → upd H6 A2.q (.ins T.C_Draft A2.dx (putF "firsts" (.ref A.fl) A2.fields)) a = some o := fun n z => kk _ _ n n z
    have n1 := nq3 y1 fun _ _ _ z => by cases z
    have n2 := nq3 y2 fun _ _ _ z => by cases z
    have n3 := nq3 z1 fun _ _ _ z => by cases z
    have n4 := nq3 fl6 fun _ _ _ z => by cases z
    have ntf : A2.tl ≠ A.fl := fun y => by
      rw [y, fl5.1] at ntl2
      cases ntl2
    have x7 : DrAt K T.C_Draft (upd H6 A2.q (.ins T.C_Draft A2.dx (putF "firsts" (.ref A.fl) A2.fields))) { A2 with fl := A.fl } ⟨x.hs, x.gs, [], d.firsts⟩ :=
      ⟨hq7, x6.hs.st (fun o z => go n1 z) (fun _ _ z => z.st st7), x6.gs.st (fun o z => go n2 z) (fun _ _ z => z.st st7), ⟨vs, go n3 z1, paired_mono (fun _ _ z => z.st st7) z2, z3⟩, ⟨go n4 fl6, fl5.2⟩, x6.nd.1, ntf⟩
    have ex7 : Ex H5 (upd H6 A2.q (.ins T.C_Draft A2.dx (putF "firsts" (.ref A.fl) A2.fields))) := fun a o z => go (fun y => by rw [y, nq2] at z; cases z) (e6 _ _ z)
    generalize upd H6 A2.q (.ins T.C_Draft A2.dx (putF "firsts" (.ref A.fl) A2.fields)) = H7 at x7 ex7 ⊢
    clear go kk st7 nq3 hq7
    refine q_tell (A := { A2 with fl := A.fl }) (ds := [.str "idle", .str h, .str why]) T.dc x7 rfl (eu_tup (ea_cons ev_c (ea_cons (ev_var rfl) (ea_cons (ev_var rfl) ea_nil))) (by simp)) (.cons rfl (.cons rfl (.cons rfl .nil))) (by show 0 < 90000; decide) fun H8 x8 k8 => ?_
    refine s_ret (v := .ref A2.q) (ev_var rfl) fun H9 e9 => ?_
    have ex8 : Ex H H8 := fun a o z => by
      have z5 := e15 _ _ (e1 _ _ z)
      refine k8 a o (fun y => ?_) (fun y => ?_) (fun y => ?_) (fun y => ?_) (ex7 _ _ z5)
      · have y : a = A2.hd := y
        rw [y, nhd2] at z5
        cases z5
      · have y : a = A2.gd := y
        rw [y, ngd2] at z5
        cases z5
      · have y : a = A2.tl := y
        rw [y, ntl2] at z5
        cases z5
      · have y : a = A.fl := y
        rw [y, bk nfl] at z
        cases z
    have b5 : ∀ {a : Addr}, H5 a = none → H a = none := fun z => fresh_back (e1.trans e15) z
    refine q { A2 with fl := A.fl } H9 (ex8.trans e9) (b5 nq2) (b5 nhd2) (b5 ngd2) ?_
    rw [de]
    exact x8.ex e9
theorem ok_House_step (T : Tp w K mg) : FnOk P w K mg base CX0 18 T.f_House_step T.d_House_step ["self", "name"] (spStep K T.C_Draft T.C_House) := by
  refine T.F_House_step.ok sc_House_step (fun vs H Q E h => ?_) (fun cdv A outer s H vs Q E hr h => ?_)
  · obtain ⟨B, s, x, h, r, rfl, _⟩ := h
    rfl
  obtain ⟨B, s, x, h, r, rfl, ho, hn, ok, hl, q⟩ := h
  refine ⟨_, (pss_cons (ps_set (i := 2) sc_House_step.nd rfl (Or.inl rfl) (pe_call (ok_drafted T) (hr.mono (by decide)) rfl T.m_drafted T.F_drafted.kp (b_drafted T) .nil pass0 (pa_cons (pv 0) (pa_cons (pv 1) pa_nil (star1 rfl)) (star1 rfl)) (by decide) (star1 rfl) (starAll rfl)))
  (pss_cons (ps_fld (pv 0) (pe_fldK (K := K) rfl (pv 2) rfl) rfl)
  (pss_cons (ps_fld (pv 0) (pe_fldK (K := K) rfl (pv 2) rfl) rfl)
  (pss_one (ps_ret (pe_callTy (tupleK (K := K) rfl) rfl T.z_tuple (by decide +kernel) (pa_cons (pe_fldK (K := K) rfl (pv 2) rfl) pa_nil (star1 rfl)) (by decide) (by decide) (star1 rfl) (starAll rfl))))))), ?_⟩
  refine q_asgP ?_
  refine ⟨_, rfl, _, rfl, B, s, x, h, r, rfl, (hoR_of ho), hn, ok, fun A H1 e1 nq nhd ngd x1 => ?_⟩
  have ho1 := ho.ex e1
  have npq : B.p ≠ A.q := fun z => by
    have y := ho.ob
    rw [z, nq] at y
    cases y
  obtain ⟨k1, y1⟩ := x1.hs.dk
  obtain ⟨k2, y2⟩ := x1.gs.dk
  have nh : A.hd ≠ B.p := fun z => by
    have y := ho1.ob
    rw [← z, y1] at y
    cases y
  have ng : A.gd ≠ B.p := fun z => by
    have y := ho1.ob
    rw [← z, y2] at y
    cases y
  -- self.hands = draft.hands
  refine q_fld ⟨_, rfl, A.q, _, A.dx, A.fields, _, rfl, x1.ob, T.dc.cl, T.dc.hd, fld_hd, _, rfl, B.p, _, B.dx, B.fields, rfl, ho1.ob, T.cl_House, T.na_House_hands, (by show 7 < 1000; decide), ?_⟩
  have kk1 : Kp B.p B.p H1 (upd H1 B.p (.ins T.C_House B.dx (putF "hands" (.ref A.hd) B.fields))) := Kp.ins (Kp.refl _ _ H1)
  have h2 : upd H1 B.p (.ins T.C_House B.dx (putF "hands" (.ref A.hd) B.fields)) B.p = some (.ins T.C_House B.dx (HoA.fields { B with hd := A.hd })) := by rw [upd_same]; rfl
  generalize upd H1 B.p (.ins T.C_House B.dx (putF "hands" (.ref A.hd) B.fields)) = H2 at kk1 h2 ⊢
  -- self.groups = draft.groups
  refine q_fld ⟨_, rfl, A.q, _, A.dx, A.fields, _, rfl, kk1 _ _ (Ne.symm npq) (Ne.symm npq) x1.ob, T.dc.cl, T.dc.gd, fld_gd, _, rfl, B.p, _, B.dx, _, rfl, h2, T.cl_House, T.na_House_groups, (by show 7 < 1000; decide), ?_⟩
  have kk2 : Kp B.p B.p H1 (upd H2 B.p (.ins T.C_House B.dx (putF "groups" (.ref A.gd) (HoA.fields { B with hd := A.hd })))) := Kp.ins kk1
  have h3 : upd H2 B.p (.ins T.C_House B.dx (putF "groups" (.ref A.gd) (HoA.fields { B with hd := A.hd }))) B.p = some (.ins T.C_House B.dx (HoA.fields { B with hd := A.hd, gd := A.gd })) := by rw [upd_same]; rfl
  generalize upd H2 B.p (.ins T.C_House B.dx (putF "groups" (.ref A.gd) (HoA.fields { B with hd := A.hd }))) = H3 at kk2 h3 ⊢
  have st3 := st_ins (K := K) ho1.ob kk2
  obtain ⟨vs, t1, t2, t3⟩ := x1.tl
  have nt : A.tl ≠ B.p := fun z => by
    have y := ho1.ob
    rw [← z, t1] at y
    cases y
  refine s_retP ?_
  refine ⟨_, rfl, A.q, _, A.dx, A.fields, _, rfl, kk2 _ _ (Ne.symm npq) (Ne.symm npq) x1.ob, T.dc.cl, T.dc.tl, fld_tl, A.tl, vs, rfl, Or.inl ⟨sq_of (kk2 _ _ nt nt t1), fun t ht => ?_⟩⟩
  have e4 := Ex.new (o := .tup vs) ht
  have st4 := st3.trans (ST.ex (K := K) e4)
  refine q { B with hd := A.hd, gd := A.gd } (.ref t) _ ⟨rfl, rfl, rfl, rfl, rfl, rfl, rfl⟩ ?_ ?_ ⟨t, vs, rfl, upd_same, paired_mono (fun _ _ z => z.st st4) t2⟩ ⟨nhd, ngd, x1.nd.1⟩
  · have go : ∀ {a : Addr}, a ≠ B.p → ∀ o, H1 a = some o → upd H3 t (.tup vs) a = some o := fun n o z => e4 _ _ (kk2 _ _ n n z)
    exact ⟨e4 _ _ h3, ho1.pa.st (go (Dm.ne ho1.pa ho1.ob)) (fun _ _ z => z.st st4), ho1.bo.st (go (Dm.ne ho1.bo ho1.ob)) (fun _ _ z => z), ho1.pr.st (go (Dm.ne ho1.pr ho1.ob)) (fun _ _ z => z.st st4), x1.hs.st (go nh) (fun _ _ z => z.st st4), x1.gs.st (go ng) (fun _ _ z => z.st st4)⟩
  · exact (Kp.ex e1).trans (kk2.trans (Kp.ex e4))
end
/-! ### a book's rows -/
def rowOf : PyData → Option Row
  | .tuple [.str z] => if z = "try" then some .tri else if z = "let" then some .let_ else none
  | .tuple [.str z, .none] => if z = "take" then some (.take none) else none
  | .tuple [.str z, .int n] => if z = "take" then some (.take (some n)) else if z = "say" then some (.say n) else if z = "goto" then some (.goto n) else none
  | .tuple [.str z, .int a, .int n] => if z = "if" then some (.iff a n) else none
  | _ => none
def progOf : PyData → List Row
  | .tuple ds => ds.filterMap rowOf
  | _ => []
def bookOf (ds : List PyData) : List (Str × List Row) := ds.map fun d => match d with
  | .tuple [.str z, p] => (z, progOf p)
  | _ => ("", [])
theorem take_inv {x : PyData} {ds : List PyData} (h : takeFits (x :: ds) = true) : ds = [.none] ∨ ∃ i, ds = [.int i] ∧ 0 ≤ i := by
  unfold takeFits at h
  split at h
  · rename_i e
    cases e
    exact Or.inl rfl
  · rename_i d _ e
    cases e
    cases d <;> simp [wholeFrom] at h
    exact Or.inr ⟨_, rfl, h⟩
  · cases h
theorem word_inv {x : PyData} {ds : List PyData} (h : wordFits (x :: ds) = true) : ds = [] := by
  unfold wordFits at h
  have := of_decide_eq_true h
  rw [List.length_cons] at this
  exact List.length_eq_zero_iff.mp (by omega)
theorem say_inv {x : PyData} {ds : List PyData} (h : sayFits (x :: ds) = true) : ∃ i, ds = [.int i] := by
  unfold sayFits at h
  split at h
  · rename_i e
    cases e
    exact ⟨_, rfl⟩
  · cases h
theorem goto_inv {x : PyData} {ds : List PyData} {many : Int} (h : gotoFits (x :: ds) many = true) : ∃ i, ds = [.int i] ∧ 0 ≤ i ∧ i < many := by
  unfold gotoFits at h
  split at h
  · rename_i d e
    cases e
    cases d <;> simp [rowNum] at h
    exact ⟨_, rfl, h.1, h.2⟩
  · cases h
theorem if_inv {x : PyData} {ds : List PyData} {many : Int} (h : ifFits (x :: ds) many = true) : ∃ a i, ds = [.int a, .int i] ∧ 0 ≤ i ∧ i < many := by
  unfold ifFits at h
  split at h
  · rename_i d f e
    cases e
    rw [Bool.and_eq_true] at h
    obtain ⟨h1, h2⟩ := h
    cases d <;> simp [isWhole] at h1
    cases f <;> simp [rowNum] at h2
    exact ⟨_, _, rfl, h2.1, h2.2⟩
  · cases h
theorem row_v {K : PySem.W.Frag} {H : Hp} {v : V} {d : PyData} {many : Int} (h : rowFits d many = true) (hv : Dy K H v d) : ∃ r, rowOf d = some r ∧ RowV K H v r ∧ (∀ n, (r = .goto n ∨ ∃ a, r = .iff a n) → 0 ≤ n ∧ n < many) ∧ ∀ l, r = .take (some l) → 0 ≤ l := by
  unfold rowFits at h
  split at h
  rotate_left
  · cases h
  rename_i z ds
  cases hv with
  | tup hs ha =>
    cases ha with
    | cons h1 ha =>
      cases h1
      by_cases n1 : z = "take"
      · rw [if_pos n1] at h
        subst n1
        rcases take_inv h with e | ⟨i, e, hi⟩
        · subst e
          cases ha with
          | cons h2 ha =>
            cases ha
            cases h2
            exact ⟨.take none, by simp [rowOf], ⟨_, rfl, hs⟩, (fun n z => by rcases z with z | ⟨_, z⟩ <;> cases z), fun l z => by cases z⟩
        · subst e
          cases ha with
          | cons h2 ha =>
            cases ha
            cases h2
            exact ⟨.take (some i), by simp [rowOf], ⟨_, rfl, hs⟩, (fun n z => by rcases z with z | ⟨_, z⟩ <;> cases z), fun l z => by cases z; exact hi⟩
      rw [if_neg n1] at h
      by_cases n2 : z = "try"
      · rw [if_pos n2] at h
        subst n2
        have e := word_inv h
        subst e
        cases ha
        exact ⟨.tri, by simp [rowOf], ⟨_, rfl, hs⟩, (fun n z => by rcases z with z | ⟨_, z⟩ <;> cases z), fun l z => by cases z⟩
      rw [if_neg n2] at h
      by_cases n3 : z = "let"
      · rw [if_pos n3] at h
        subst n3
        have e := word_inv h
        subst e
        cases ha
        refine ⟨.let_, ?_, ⟨_, rfl, hs⟩, (fun n z => by rcases z with z | ⟨_, z⟩ <;> cases z), fun l z => by cases z⟩
        simp only [rowOf]
        rw [if_neg n2, if_pos trivial]
      rw [if_neg n3] at h
      by_cases n4 : z = "say"
      · rw [if_pos n4] at h
        subst n4
        obtain ⟨i, e⟩ := say_inv h
        subst e
        cases ha with
        | cons h2 ha =>
          cases ha
          cases h2
          refine ⟨.say i, ?_, ⟨_, rfl, hs⟩, (fun n z => by rcases z with z | ⟨_, z⟩ <;> cases z), fun l z => by cases z⟩
          simp only [rowOf]
          rw [if_neg n1, if_pos trivial]
      rw [if_neg n4] at h
      by_cases n5 : z = "goto"
      · rw [if_pos n5] at h
        subst n5
        obtain ⟨i, e, h0, h1⟩ := goto_inv h
        subst e
        cases ha with
        | cons h2 ha =>
          cases ha
          cases h2
          refine ⟨.goto i, ?_, ⟨_, rfl, hs⟩, (fun n z => by rcases z with z | ⟨_, z⟩ <;> cases z; exact ⟨h0, h1⟩), fun l z => by cases z⟩
          simp only [rowOf]
          rw [if_neg n1, if_neg n4, if_pos trivial]
      rw [if_neg n5] at h
      by_cases n6 : z = "if"
      · rw [if_pos n6] at h
        subst n6
        obtain ⟨a9, i, e, h0, h1⟩ := if_inv h
        subst e
        cases ha with
        | cons h2 ha =>
          cases ha with
          | cons h3 ha =>
            cases ha
            cases h2
            cases h3
            refine ⟨.iff a9 i, by simp [rowOf], ⟨_, rfl, hs⟩, (fun n z => by rcases z with z | ⟨_, z⟩ <;> cases z; exact ⟨h0, h1⟩), fun l z => by cases z⟩
      rw [if_neg n6] at h
      cases h
theorem rows_v {K : PySem.W.Frag} {H : Hp} {many : Int} : ∀ {xs : List V} {ds : List PyData}, DyAll K H xs ds → (∀ d ∈ ds, rowFits d many = true) → Paired (RowV K H) xs (ds.filterMap rowOf) ∧ (ds.filterMap rowOf).length = ds.length ∧ (∀ n, (Row.goto n ∈ ds.filterMap rowOf ∨ ∃ a, Row.iff a n ∈ ds.filterMap rowOf) → 0 ≤ n ∧ n < many) ∧ ∀ l, Row.take (some l) ∈ ds.filterMap rowOf → 0 ≤ l
  | _, _, .nil, _ => ⟨.nil, rfl, (fun n z => by rcases z with z | ⟨_, z⟩ <;> cases z), fun l z => by cases z⟩
  | _, _, .cons (d := d) (ds := ds) h t, hp => by
    obtain ⟨r, e, rv, r1, r2⟩ := row_v (hp d List.mem_cons_self) h
    obtain ⟨i1, i2, i3, i4⟩ := rows_v t fun d' hd' => hp d' (List.mem_cons_of_mem _ hd')
    rw [List.filterMap_cons, e]
    refine ⟨.cons rv i1, by rw [List.length_cons, List.length_cons, i2], fun n z => ?_, fun l z => ?_⟩
    · rcases z with z | ⟨a, z⟩
      · rcases List.mem_cons.mp z with z | z
        · exact r1 n (Or.inl z.symm)
        · exact i3 n (Or.inl z)
      · rcases List.mem_cons.mp z with z | z
        · exact r1 n (Or.inr ⟨a, z.symm⟩)
        · exact i3 n (Or.inr ⟨a, z⟩)
    · rcases List.mem_cons.mp z with z | z
      · exact r2 l z.symm
      · exact i4 l z
theorem prog_v {K : PySem.W.Frag} {H : Hp} {v : V} {d : PyData} (h : progFits d = true) (hv : Dy K H v d) (hn : nodes d ≤ 5000) : PrV K H v (progOf d) ∧ progOk (progOf d) := by
  unfold progFits at h
  split at h
  rotate_left
  · cases h
  rename_i ds
  cases hv with
  | tup hs ha =>
    obtain ⟨i1, i2, i3, i4⟩ := rows_v ha fun d hd => List.all_eq_true.mp h d hd
    have hl := nodes_lenB ds
    simp only [nodes] at hn
    refine ⟨⟨_, _, rfl, hs, i1⟩, ?_⟩
    unfold progOk
    simp only [progOf]
    rw [i2]
    exact ⟨by omega, fun n z => ⟨(i3 n z).1, Int.le_of_lt (i3 n z).2⟩, i4⟩
theorem book_v {K : PySem.W.Frag} {H : Hp} : ∀ {xs : List V} {ds : List PyData}, DyAll K H xs ds → (∀ d ∈ ds, pairB d = true) → (∀ d ∈ ds, nodes d ≤ 5000) → ∃ (ps : List Addr) (kvs : List (Key × V)), xs = ps.map V.ref ∧ Paired (fun p kv => SqT K H p [kV kv.1, kv.2]) ps kvs ∧ Paired (Kr (PrV K H)) kvs (bookOf ds) ∧ (bookOf ds).map (·.1) = ds.map pairName ∧ ∀ x ∈ bookOf ds, progOk x.2
  | _, _, .nil, _, _ => ⟨[], [], rfl, .nil, .nil, rfl, fun x z => by cases z⟩
  | _, _, .cons (v := v) (d := d) h t, hp, hn => by
    obtain ⟨ps, kvs, e, hk, hr, hm, ho⟩ := book_v t (fun d' hd' => hp d' (List.mem_cons_of_mem _ hd')) fun d' hd' => hn d' (List.mem_cons_of_mem _ hd')
    have h1 := hp d List.mem_cons_self
    have hn1 := hn d List.mem_cons_self
    cases h with
    | tup hs ha =>
      rename_i a ys es
      cases ha with
      | nil => cases h1
      | cons d1 ha =>
        cases ha with
        | nil => cases d1 <;> cases h1
        | cons d2 ha =>
          cases ha with
          | cons _ _ => cases d1 <;> cases h1
          | nil =>
            cases d1 with
            | str z =>
              rename_i dd
              have h1 : progFits dd = true := h1
              simp only [nodes, nodess] at hn1
              obtain ⟨pv, po⟩ := prog_v h1 d2 (by omega)
              refine ⟨a :: ps, (.inr z, _) :: kvs, by rw [e]; rfl, .cons hs hk, .cons ⟨rfl, pv⟩ hr, ?_, fun x hx => ?_⟩
              · show z :: (bookOf _).map (·.1) = z :: _
                rw [hm]
              · rcases List.mem_cons.mp hx with q | q
                · rw [q]
                  exact po
                · exact ho x q
            | _ => cases h1
    | _ => cases h1
/-! ### a new house -/
theorem take_one {α : Type} {xs : List α} {i : Nat} {x : α} (h : xs[i]? = some x) : xs.take (i + 1) = xs.take i ++ [x] := by
  have hi := (List.getElem?_eq_some_iff.mp h).1
  rw [List.take_succ_eq_append_getElem hi, (List.getElem?_eq_some_iff.mp h).2]
theorem take_new {α : Type} {xs : List (Str × α)} {i : Nat} {n : Str} {v : α} (nd : (xs.map (·.1)).Nodup) (h : xs[i]? = some (n, v)) : n ∉ (xs.take i).map (·.1) := fun hm => by
  have e := take_one h
  have : ((xs.take (i + 1)).map (·.1)).Nodup := by
    have hs : (xs.take (i + 1)).map (·.1) = (xs.map (·.1)).take (i + 1) := List.map_take
    rw [hs]
    exact nd.sublist (List.take_sublist _ _)
  rw [e, List.map_append, List.nodup_append] at this
  exact this.2.2 n hm n (by simp) rfl
theorem map_at {α β : Type} {xs : List α} {f : α → β} {i : Nat} {y : β} (h : (xs.map f)[i]? = some y) : ∃ x, xs[i]? = some x ∧ y = f x := by
  rw [List.getElem?_map] at h
  cases hz : xs[i]? with
  | none => rw [hz] at h; cases h
  | some x => rw [hz] at h; cases h; exact ⟨x, rfl, rfl⟩
theorem at_map {α β : Type} {xs : List α} {f : α → β} {i : Nat} {x : α} (h : xs[i]? = some x) : (xs.map f)[i]? = some (f x) := by rw [List.getElem?_map, h]; rfl
theorem bnds_pd : ∀ (rs : List Rb), Paired (Kr BdV) ((((rs.filter fun r => r.2.1.isSome).map (·.1)).map Sum.inr).zip ((rs.filter fun r => r.2.1.isSome).map fun r => obV r.2.1)) ((rs.filter fun r => r.2.1.isSome).map fun r => (r.1, r.2.1.getD 0))
  | [] => .nil
  | (n, none, p) :: rs => by
    rw [List.filter_cons_of_neg (by simp)]
    exact bnds_pd rs
  | (n, some b, p) :: rs => by
    rw [List.filter_cons_of_pos (by simp)]
    exact .cons ⟨rfl, rfl⟩ (bnds_pd rs)
structure IniOk (K : PySem.W.Frag) (H : Hp) (v : V) (n : Str) (b : Int) (ms : List Tr) (a : Addr) (ds : List PyData) : Prop where
  tv : TrV H v (.grp n b ms)
  ok : (Tr.grp n b ms).ok
  dp : (Tr.grp n b ms).deep ≤ 10
  sz : (Tr.grp n b ms).size < 64
  nd : (Tr.grp n b ms).nms.Nodup
  nm : ∀ x ∈ (Tr.grp n b ms).nms, nameOk x
  bk : ∃ o xs, H a = some (.frz o (.tup xs)) ∧ o.dict = none ∧ TDs K H 4410 61 3 xs ds
  dl : ds.length ≤ 40
  ys : ∃ ys, ys.Perm (handsOf (.grp n b ms)) ∧ PyProof.Rows.sortedS ys = true ∧ bookB ys (.tuple ds) = true
theorem IniOk.kp {K : PySem.W.Frag} {H H' : Hp} {v : V} {n : Str} {b : Int} {ms : List Tr} {a : Addr} {ds : List PyData} {p C dx : Addr} {fs : List (Str × V)} (i : IniOk K H v n b ms a ds) (hp : H p = some (.ins C dx fs)) (k : Kp p p H H') : IniOk K H' v n b ms a ds := by
  obtain ⟨o, xs, h1, h2, h3⟩ := i.bk
  have ap : a ≠ p := fun y => by
    subst y
    rw [hp] at h1
    cases h1
  exact ⟨trv_tk (tk_kp hp k) _ _ i.tv, i.ok, i.dp, i.sz, i.nd, i.nm, ⟨o, xs, k _ _ ap ap h1, h2, h3.st (st_ins hp k)⟩, i.dl, i.ys⟩
theorem IniOk.ex {K : PySem.W.Frag} {H H' : Hp} {v : V} {n : Str} {b : Int} {ms : List Tr} {a : Addr} {ds : List PyData} (i : IniOk K H v n b ms a ds) (e : Ex H H') : IniOk K H' v n b ms a ds := by
  obtain ⟨o, xs, h1, h2, h3⟩ := i.bk
  exact ⟨trv_tk (TK.ex e) _ _ i.tv, i.ok, i.dp, i.sz, i.nd, i.nm, ⟨o, xs, e _ _ h1, h2, h3.st (ST.ex e)⟩, i.dl, i.ys⟩
theorem nodes_td {K : PySem.W.Frag} {H : Hp} {W N D : Nat} : ∀ {xs : List V} {ds : List PyData}, TDs K H W N D xs ds → ∀ d ∈ ds, nodes d ≤ N
  | _, _, .nil, d, h => by cases h
  | _, _, .cons a t, d, h => by
    rcases List.mem_cons.mp h with z | z
    · rw [z]
      exact a.nd
    · exact nodes_td t d z
def fl2 (v : V) (a : Addr) : List (Str × V) := [("plan", v), ("book", .ref a)]
def fl3 (v : V) (a D : Addr) : List (Str × V) := [("plan", v), ("book", .ref a), ("paths", .ref D)]
def fl4 (v : V) (a D D2 : Addr) : List (Str × V) := [("plan", v), ("book", .ref a), ("paths", .ref D), ("bounds", .ref D2)]
def fl5 (v : V) (a D D2 D3 : Addr) : List (Str × V) := [("plan", v), ("book", .ref a), ("paths", .ref D), ("bounds", .ref D2), ("programs", .ref D3)]
def fl6 (v : V) (a D D2 D3 D4 : Addr) : List (Str × V) := [("plan", v), ("book", .ref a), ("paths", .ref D), ("bounds", .ref D2), ("programs", .ref D3), ("hands", .ref D4)]
def spInit (K : PySem.W.Frag) (C : Addr) : Sp := fun vs H Q _ => ∃ (p dx : Addr) (v : V) (n : Str) (b : Int) (ms : List Tr) (a : Addr) (ds : List PyData), vs = [.ref p, v, .ref a] ∧ H p = some (.ins C dx []) ∧ IniOk K H v n b ms a ds ∧
  ∀ B H', B.p = p → B.pv = v → B.bv = .ref a → Kp p p H H' → HoAt K C H' B (staOf (.grp n b ms) (bookOf ds)) (shOf (.grp n b ms)) → Apt B → Q .non H'
section
variable {P : Program} {w : World} {K : PySem.W.Frag} {mg : Str → Option Value} {base : Heap}
theorem ok_House___init__ (T : Tp w K mg) : FnOk P w K mg base CX0 16 T.f_House___init__ T.d_House___init__ ["self", "plan", "book"] (spInit K T.C_House) := by
  refine T.F_House___init__.ok sc_House___init__ (fun vs H Q E h => ?_) (fun cdv A outer s H vs Q E hr h => ?_)
  · obtain ⟨p, dx, v, n, b, ms, a, ds, rfl, _⟩ := h
    rfl
  obtain ⟨p, dx, v, n, b, ms, a, ds, rfl, hp, ⟨tv, tok, tdp0, tsz, tnd, tnm, ⟨o, xs, hfr, hdn, tds⟩, hdl, ⟨ys, hpm, hsd, hbk⟩⟩, q⟩ := h
  refine ⟨_, (pss_cons (ps_if (pt_not (pt_val (pe_call (ok_is_plan T) (hr.mono (by decide)) rfl T.m_is_plan T.F_is_plan.kp (b_is_plan T) .nil pass0 (pa_cons (pv 1) pa_nil (star1 rfl)) (by decide) (star1 rfl) (starAll rfl)))) (pss_one ps_never) pss_nil)
  (pss_cons (ps_if (pt_not (pt_val (pe_call (ok_is_book T) (hr.mono (by decide)) rfl T.m_is_book T.F_is_book.kp (b_is_book T) .nil pass0 (pa_cons (pv 1) (pa_cons (pv 2) pa_nil (star1 rfl)) (star1 rfl)) (by decide) (star1 rfl) (starAll rfl)))) (pss_one ps_never) pss_nil)
  (pss_cons (ps_fld (pv 0) (pv 1) rfl)
  (pss_cons (ps_fld (pv 0) (pv 2) rfl)
  (pss_cons (ps_fld (pv 0) (pe_dc (own := [("name", 3), ("bound", 4), ("path", 5)]) (g := gTup K 3 (gCons (gName 3) (gCons (gName 4) (gCons (gName 5) gNil)))) (tt := tYes) rfl sc_House___init__.nd (plLK (K := K) rfl (pe_call (ok_all_in T) (hr.mono (by decide)) rfl T.m_all_in T.F_all_in.kp (b_all_in T) .nil pass0 (pa_cons (pv 1) pa_nil (star1 rfl)) (by decide) (star1 rfl) (starAll rfl))) (blkOk_by (N := N_House___init__) (sc := defScope s_House___init__) (by decide +kernel)) (fun _ _ _ _ _ => (pg_tup rfl (pgs_cons (pg_name (i := 3) sc_House___init__.nd rfl (Or.inl rfl)) (pgs_cons (pg_name (i := 4) sc_House___init__.nd rfl (Or.inl rfl)) (pgs_cons (pg_name (i := 5) sc_House___init__.nd rfl (Or.inl rfl)) pgs_nil))))) (fun _ _ _ _ _ => pts_nil) (fun _ _ _ _ _ => (pv 3)) (fun _ _ _ _ _ => (pv 5))) rfl)
  (pss_cons (ps_fld (pv 0) (pe_dictZ (K := K) rfl rfl T.z_dict rfl T.z_zip (pa_cons (pe_call (ok_groups_of T) (hr.mono (by decide)) rfl T.m_groups_of T.F_groups_of.kp (b_groups_of T) .nil pass0 (pa_cons (pv 1) pa_nil (star1 rfl)) (by decide) (star1 rfl) (starAll rfl)) (pa_cons (pe_call (ok_bounds_of T) (hr.mono (by decide)) rfl T.m_bounds_of T.F_bounds_of.kp (b_bounds_of T) .nil pass0 (pa_cons (pv 1) pa_nil (star1 rfl)) (by decide) (star1 rfl) (starAll rfl)) pa_nil (star1 rfl)) (star1 rfl)) rfl (star1 rfl) (starAll rfl)) rfl)
  (pss_cons (ps_fld (pv 0) (pe_callTy (call_dictT (K := K) rfl rfl) rfl T.z_dict (by decide +kernel) (pa_cons (pv 2) pa_nil (star1 rfl)) (by decide) (by decide) (star1 rfl) (starAll rfl)) rfl)
  (pss_cons (ps_fld (pv 0) (pe_dc (own := [("name", 3)]) (g := gName 3) (tt := tYes) rfl sc_House___init__.nd (piTK (K := K) rfl (pe_call (ok_hands_of T) (hr.mono (by decide)) rfl T.m_hands_of T.F_hands_of.kp (b_hands_of T) .nil pass0 (pa_cons (pv 1) pa_nil (star1 rfl)) (by decide) (star1 rfl) (starAll rfl))) (blkOk_by (N := N_House___init__) (sc := defScope s_House___init__) (by decide +kernel)) (fun _ _ _ _ _ => (pg_name (i := 3) sc_House___init__.nd rfl (Or.inl rfl))) (fun _ _ _ _ _ => pts_nil) (fun _ _ _ _ _ => (pv 3)) (fun _ _ _ _ _ => (pe_tup (pa_cons pe_int (pa_cons pe_int (pa_cons pe_str (pa_cons pe_non pa_nil (star1 rfl)) (star1 rfl)) (star1 rfl)) (star1 rfl))))) rfl)
  (pss_one (ps_fld (pv 0) (pe_dc (own := [("name", 3)]) (g := gName 3) (tt := tYes) rfl sc_House___init__.nd (piTK (K := K) rfl (pe_call (ok_groups_of T) (hr.mono (by decide)) rfl T.m_groups_of T.F_groups_of.kp (b_groups_of T) .nil pass0 (pa_cons (pv 1) pa_nil (star1 rfl)) (by decide) (star1 rfl) (starAll rfl))) (blkOk_by (N := N_House___init__) (sc := defScope s_House___init__) (by decide +kernel)) (fun _ _ _ _ _ => (pg_name (i := 3) sc_House___init__.nd rfl (Or.inl rfl))) (fun _ _ _ _ _ => pts_nil) (fun _ _ _ _ _ => (pv 3)) (fun _ _ _ _ _ => (pe_tup (pa_cons pe_non (pa_cons pe_int (pa_cons (pe_tup pa_nil) pa_nil (star1 rfl)) (star1 rfl)) (star1 rfl))))) rfl)))))))))), ?_⟩
  have tdp : (Tr.grp n b ms).deep ≤ 12 := by omega
  obtain ⟨t1, t2, t3⟩ := tree_fits tnm tok (by omega) tdp
  have tdb : TD K H 180000 2500 4 (.ref a) (.tuple ds) := (TDs.tup (n := 40) tds (Or.inl (Or.inr ⟨o, hfr⟩)) hdl).up (by decide) (by decide) (by decide)
  have pb : (∀ d ∈ ds, pairB d = true) ∧ ds.map pairName = ys := by
    unfold bookB at hbk
    rw [Bool.and_eq_true] at hbk
    exact ⟨List.all_eq_true.mp hbk.1, of_decide_eq_true hbk.2⟩
  obtain ⟨ps, kvs, hxs, hkv, hpr, hbn, _⟩ := book_v tds.all.1 pb.1 fun d hd => Nat.le_trans (nodes_td tds d hd) (by decide)
  -- if not is_plan(plan)
  refine q_when (b := false) (et_is (et_not (et_B (b := true) (ev_is (ev_call (ea_cons (ev_var rfl) ea_nil) fun H1 e1 Q' q' E' => ⟨v, _, rfl, tree_dx (trv_tk (TK.ex e1) _ _ tv), t1, t2, Nat.le_trans t3 (by decide), q'⟩) ?_))) rfl) (fun hb => by cases hb) (fun _ H1 e1 => ?_)
  · rw [plan_tree tok tnm, decide_eq_true tnd]
  -- if not is_book(plan, book)
  refine q_when (b := false) (et_is (et_not (et_B (b := true) (ev_call (ea_cons (ev_var rfl) (ea_cons (ev_var rfl) ea_nil)) fun H2 e2 Q' q' E' => ⟨v, .ref a, n, b, ms, .tuple ds, 1000000000, rfl, trv_tk (TK.ex (e1.trans e2)) _ _ tv, tdp, tsz, tnm, dy_dx (dy_mono (e1.trans e2) tdb.dy), Nat.le_trans tdb.nd (by decide), tdb.ok, fun ys' H3 hp' hs' e3 => ?_⟩))) rfl) (fun hb => by cases hb) (fun _ H2 e2 => ?_)
  · rw [sorted_unique hs' hsd (hp'.trans hpm.symm), hbk]
    exact q' H3 e3
  have e02 := e1.trans e2
  -- self.plan = plan, self.book = book
  refine q_fld ⟨_, rfl, _, rfl, p, T.C_House, dx, [], rfl, e02 _ _ hp, T.cl_House, T.na_House_plan, (by show 0 < 1000; decide), ?_⟩
  refine q_fld ⟨_, rfl, _, rfl, p, T.C_House, dx, _, rfl, upd_same, T.cl_House, T.na_House_book, (by show 1 < 1000; decide), ?_⟩
  have f2 : putF "book" (.ref a) (putF "plan" v []) = (fl2 v a) := by rfl
  rw [f2]
  have hpb : upd (upd H2 p (.ins T.C_House dx (putF "plan" v []))) p (.ins T.C_House dx (fl2 v a)) p = some (.ins T.C_House dx (fl2 v a)) := upd_same
  have kb : Kp p p H (upd (upd H2 p (.ins T.C_House dx (putF "plan" v []))) p (.ins T.C_House dx (fl2 v a))) := kp_upd (kp_upd (Kp.ex e02))
  generalize upd (upd H2 p (.ins T.C_House dx (putF "plan" v []))) p (.ins T.C_House dx (fl2 v a)) = Hb at hpb kb
  have hsz : (Tr.grp n b ms).size ≤ 1000 := by omega
  have ndp : ((pathsOf (.grp n b ms)).map (·.1)).Nodup := by rw [paths_nms]; exact tnd
  -- self.paths
  refine q_fld ⟨_, rfl, v, n, b, ms, rfl, trv_tk (tk_kp hp kb) _ _ tv, tdp, hsz, fun r rxs H3 e3 hr3 h3 rows => ⟨r, rfl, ⟨rxs, sq_of h3⟩, fun D hD => ?_⟩⟩
  have hrl : rxs.length ≤ 1000 := by rw [rows.len, rows_len]; exact hsz
  have hpl : rxs.length = (pathsOf (.grp n b ms)).length := by rw [rows.len]; unfold pathsOf; rw [List.length_map]
  refine dc_it (walk_list (K := K) (a := r) (xs := rxs)) (fun i H' => Ex H3 H' ∧ ∃ kvs, H' D = some (.dK kvs) ∧ Paired (Kr (PaV K H')) kvs ((pathsOf (.grp n b ms)).take i)) ⟨Ex.new hD, [], upd_same, .nil⟩ (fun i H' _ hP => sq_of (hP.1 _ _ h3)) ?_ ?_
  · rintro i x H4 H5 hi ⟨e4, kvs4, hk4, hl4⟩ ⟨rfl, hx⟩
    obtain ⟨rw', hrw, a', pa, rfl, ha, hpa⟩ := rows.get hx
    have ln := paired_len hl4
    rw [List.length_take] at ln
    have hat : (pathsOf (.grp n b ms))[i]? = some (rw'.1, rw'.2.2) := at_map hrw
    refine ⟨a', _, rfl, st_of (e4 _ _ ha), rfl, _, _, rfl, _, _, rfl, _, _, rfl, rfl, rfl, tYesQ ?_⟩
    refine ⟨_, rfl, _, rfl, kvs4, .inr rw'.1, rfl, hk4, sz_lt (by omega), Ex.mut e4 hD, _, upd_same, ?_⟩
    rw [take_one hat]
    have sk : ST K H5 (upd H5 D (.dK (putK kvs4 (.inr rw'.1) (.ref pa)))) := ST.dk hk4
    exact kr_new (paired_mono (fun _ _ z => ⟨z.1, z.2.st sk⟩) hl4) (take_new ndp hat) ⟨pa, rfl, sk _ _ (st_of (e4 _ _ hpa))⟩
  rintro H4 ⟨e4, kvs4, hk4, hl4⟩
  rw [hpl, List.take_length] at hl4
  refine ⟨_, rfl, p, T.C_House, dx, _, rfl, e4 _ _ (e3 _ _ hpb), T.cl_House, T.na_House_paths, (by show 2 < 1000; decide), ?_⟩
  have f3 : putF "paths" (.ref D) (fl2 v a) = (fl3 v a D) := by rfl
  rw [f3]
  have hp4 := e4 _ _ (e3 _ _ hpb)
  have kc : Kp p p H (upd H4 p (.ins T.C_House dx (fl3 v a D))) := kp_upd (kb.trans (Kp.ex (e3.trans e4)))
  have k4c : Kp p p H4 (upd H4 p (.ins T.C_House dx (fl3 v a D))) := kp_upd (Kp.ex (Ex.refl H4))
  have dmP : Dm (PaV K (upd H4 p (.ins T.C_House dx (fl3 v a D)))) (upd H4 p (.ins T.C_House dx (fl3 v a D))) D (pathsOf (.grp n b ms)) := by
    have d0 : Dm (PaV K H4) H4 D (pathsOf (.grp n b ms)) := ⟨kvs4, hk4, hl4, by rw [← hpl]; exact hrl⟩
    exact d0.st (fun _ z => k4c _ _ (d0.ne hp4) (d0.ne hp4) z) fun _ _ z => z.st (st_ins hp4 k4c)
  have hpc : upd H4 p (.ins T.C_House dx (fl3 v a D)) p = some (.ins T.C_House dx (fl3 v a D)) := upd_same
  generalize upd H4 p (.ins T.C_House dx (fl3 v a D)) = Hc at hpc kc dmP
  -- self.bounds
  have tvc := trv_tk (tk_kp hp kc) _ _ tv
  refine q_fld ⟨_, rfl, v, n, b, ms, rfl, tvc, tdp, hsz, fun a1 H5 e5 h5 => ⟨_, rfl, v, n, b, ms, rfl, trv_tk (TK.ex e5) _ _ tvc, tdp, hsz, fun a2 H6 e6 h6 => ⟨a1, a2, (groupsOf (.grp n b ms)).map Sum.inr, boundsV (.grp n b ms), rfl, ?_, st_of h6, by rw [List.length_map, bounds_len], fun D2 hD2 => ?_⟩⟩⟩
  · rw [List.map_map]
    exact st_of (e6 _ _ h5)
  have nds := List.nodup_append.mp (names_nodup tnd)
  have nl := names_len (.grp n b ms)
  rw [List.length_append] at nl
  have bpd : Paired (Kr BdV) (mergeK [] (((groupsOf (.grp n b ms)).map Sum.inr).zip (boundsV (.grp n b ms)))) (bndsOf (.grp n b ms)) := by
    have z := bnds_pd ((Tr.grp n b ms).rows [])
    rw [← groups_rows] at z
    exact merge_new (ys := []) .nil z (by rw [List.nil_append]; exact (bnds_nms (.grp n b ms)) ▸ nds.2.1)
  have bl : (bndsOf (.grp n b ms)).length ≤ 1000 := by
    have := congrArg List.length (bnds_nms (.grp n b ms))
    rw [List.length_map] at this
    omega
  have e7 := (e5.trans e6).trans (Ex.new (o := .dK (mergeK [] (((groupsOf (.grp n b ms)).map Sum.inr).zip (boundsV (.grp n b ms))))) hD2)
  have hD2' : upd H6 D2 (.dK (mergeK [] (((groupsOf (.grp n b ms)).map Sum.inr).zip (boundsV (.grp n b ms))))) D2 = some (.dK (mergeK [] (((groupsOf (.grp n b ms)).map Sum.inr).zip (boundsV (.grp n b ms))))) := upd_same
  generalize upd H6 D2 (.dK (mergeK [] (((groupsOf (.grp n b ms)).map Sum.inr).zip (boundsV (.grp n b ms))))) = H7 at e7 hD2'
  have dmB : Dm BdV H7 D2 (bndsOf (.grp n b ms)) := ⟨_, hD2', bpd, bl⟩
  have hp7 := e7 _ _ hpc
  refine ⟨_, rfl, p, T.C_House, dx, _, rfl, hp7, T.cl_House, T.na_House_bounds, (by show 3 < 1000; decide), ?_⟩
  have f4 : putF "bounds" (.ref D2) (fl3 v a D) = (fl4 v a D D2) := by rfl
  rw [f4]
  have kd := kp_upd (o := .ins T.C_House dx (fl4 v a D D2)) (kc.trans (Kp.ex e7))
  have k7 := kp_upd (p := p) (o := .ins T.C_House dx (fl4 v a D D2)) (Kp.ex (Ex.refl H7))
  have hpd : upd H7 p (.ins T.C_House dx (fl4 v a D D2)) p = some (.ins T.C_House dx (fl4 v a D D2)) := upd_same
  have dmP2 := (dmP.st (fun _ z => e7 _ _ z) fun _ _ z => z.st (ST.ex e7)).st (S := PaV K (upd H7 p (.ins T.C_House dx (fl4 v a D D2)))) (fun _ z => k7 _ _ (fun y => by
      obtain ⟨kk, ee⟩ := dmP.dk
      have := e7 _ _ ee
      rw [y, hp7] at this
      cases this) (fun y => by
      obtain ⟨kk, ee⟩ := dmP.dk
      have := e7 _ _ ee
      rw [y, hp7] at this
      cases this) z) fun _ _ z => z.st (st_ins hp7 k7)
  have dmB2 := dmB.st (S := BdV) (fun _ z => k7 _ _ (dmB.ne hp7) (dmB.ne hp7) z) fun _ _ z => z
  generalize upd H7 p (.ins T.C_House dx (fl4 v a D D2)) = Hd at hpd kd dmP2 dmB2
  -- self.programs
  have ap : a ≠ p := fun y => by
    subst y
    rw [hp] at hfr
    cases hfr
  have skd : ST K H Hd := st_ins hp kd
  have nbk : ((([] : List (Str × List Row)) ++ bookOf ds).map (·.1)).Nodup := by
    rw [List.nil_append, hbn, pb.2]
    exact hpm.nodup_iff.mpr nds.1
  have prd : Paired (Kr (PrV K Hd)) (mergeK [] kvs) (bookOf ds) := merge_new (ys := []) (xs := bookOf ds) .nil (paired_mono (fun _ _ z => ⟨z.1, z.2.st skd⟩) hpr) nbk
  have prl : (bookOf ds).length ≤ 1000 := by unfold bookOf; rw [List.length_map]; omega
  refine q_fld ⟨_, rfl, a, o, ps, kvs, rfl, by rw [← hxs]; exact kd _ _ ap ap hfr, hdn, paired_st skd hkv, fun D3 hD3 => ?_⟩
  have e8 := Ex.new (o := .dK (mergeK [] kvs)) hD3
  have hD3' : upd Hd D3 (.dK (mergeK [] kvs)) D3 = some (.dK (mergeK [] kvs)) := upd_same
  generalize upd Hd D3 (.dK (mergeK [] kvs)) = H8 at e8 hD3'
  have dmR : Dm (PrV K H8) H8 D3 (bookOf ds) := ⟨_, hD3', paired_mono (fun _ _ z => ⟨z.1, z.2.st (ST.ex e8)⟩) prd, prl⟩
  have dmP3 := dmP2.st (S := PaV K H8) (fun _ z => e8 _ _ z) fun _ _ z => z.st (ST.ex e8)
  have dmB3 := dmB2.st (S := BdV) (H' := H8) (fun _ z => e8 _ _ z) fun _ _ z => z
  have hp8 := e8 _ _ hpd
  refine ⟨_, rfl, p, T.C_House, dx, _, rfl, hp8, T.cl_House, T.na_House_programs, (by show 4 < 1000; decide), ?_⟩
  have f5 : putF "programs" (.ref D3) (fl4 v a D D2) = (fl5 v a D D2 D3) := by rfl
  rw [f5]
  have ke := kp_upd (o := .ins T.C_House dx (fl5 v a D D2 D3)) (kd.trans (Kp.ex e8))
  have k8 := kp_upd (p := p) (o := .ins T.C_House dx (fl5 v a D D2 D3)) (Kp.ex (Ex.refl H8))
  have hpe : upd H8 p (.ins T.C_House dx (fl5 v a D D2 D3)) p = some (.ins T.C_House dx (fl5 v a D D2 D3)) := upd_same
  have dmP4 := dmP3.st (S := PaV K (upd H8 p (.ins T.C_House dx (fl5 v a D D2 D3)))) (fun _ z => k8 _ _ (dmP3.ne hp8) (dmP3.ne hp8) z) fun _ _ z => z.st (st_ins hp8 k8)
  have dmB4 := dmB3.st (S := BdV) (fun _ z => k8 _ _ (dmB3.ne hp8) (dmB3.ne hp8) z) fun _ _ z => z
  have dmR4 := dmR.st (S := PrV K (upd H8 p (.ins T.C_House dx (fl5 v a D D2 D3)))) (fun _ z => k8 _ _ (dmR.ne hp8) (dmR.ne hp8) z) fun _ _ z => z.st (st_ins hp8 k8)
  generalize upd H8 p (.ins T.C_House dx (fl5 v a D D2 D3)) = He at hpe ke dmP4 dmB4 dmR4
  -- self.hands
  have ndh : ((shOf (.grp n b ms)).hs.map (·.1)).Nodup := by
    rw [show (shOf (.grp n b ms)).hs.map (·.1) = handsOf (.grp n b ms) from keys_new]
    exact nds.1
  refine q_fld ⟨_, rfl, v, n, b, ms, rfl, trv_tk (tk_kp hp ke) _ _ tv, tdp, hsz, fun a3 H9 e9 h9 => ⟨a3, rfl, ⟨_, st_of h9⟩, fun D4 hD4 => ?_⟩⟩
  have ap1 : D4 ≠ D := fun y => by
    obtain ⟨_, ee⟩ := dmP4.dk
    have := e9 _ _ ee
    rw [← y, hD4] at this
    cases this
  have ap2 : D4 ≠ D2 := fun y => by
    obtain ⟨_, ee⟩ := dmB4.dk
    have := e9 _ _ ee
    rw [← y, hD4] at this
    cases this
  have ap3 : D4 ≠ D3 := fun y => by
    obtain ⟨_, ee⟩ := dmR4.dk
    have := e9 _ _ ee
    rw [← y, hD4] at this
    cases this
  refine dc_it (walk_tup (K := K) (a := a3) (xs := (handsOf (.grp n b ms)).map V.str)) (fun i H' => Ex H9 H' ∧ ∃ kvs, H' D4 = some (.dK kvs) ∧ Paired (Kr (HV K H')) kvs ((shOf (.grp n b ms)).hs.take i)) ⟨Ex.new hD4, [], upd_same, .nil⟩ (fun i H' _ hP => st_of (hP.1 _ _ h9)) ?_ ?_
  · rintro i x H10 H11 hi ⟨e10, kvs4, hk4, hl4⟩ ⟨rfl, hx⟩
    obtain ⟨y, hy, rfl⟩ := map_at hx
    have hat : (shOf (.grp n b ms)).hs[i]? = some (y, ⟨0, 0, .out, none⟩) := at_map hy
    refine ⟨rfl, tYesQ ?_⟩
    refine ⟨_, rfl, (by show 4 ≤ sizeLine; decide), fun t ht => ?_⟩
    have e11 := Ex.new (o := .tup [.int 0, .int 0, .str "out", .non]) ht
    have ht' : upd H11 t (.tup [.int 0, .int 0, .str "out", .non]) t = some (.tup [.int 0, .int 0, .str "out", .non]) := upd_same
    generalize upd H11 t (.tup [.int 0, .int 0, .str "out", .non]) = H12 at e11 ht'
    have hk12 := e11 _ _ hk4
    have ln := paired_len hl4
    rw [List.length_take] at ln
    have hl9 : i ≤ 1000 := by
      have := (List.getElem?_eq_some_iff.mp hy).1
      omega
    refine ⟨kvs4, .inr y, rfl, hk12, sz_lt (by omega), Ex.mut (e10.trans e11) hD4, _, upd_same, ?_⟩
    rw [take_one hat]
    have sk : ST K H12 (upd H12 D4 (.dK (putK kvs4 (.inr y) (.ref t)))) := ST.dk hk12
    exact kr_new (paired_mono (fun _ _ z => ⟨z.1, (z.2.st (ST.ex e11)).st sk⟩) hl4) (take_new ndh hat) ⟨t, rfl, sk _ _ (st_of ht')⟩
  rintro H10 ⟨e10, kvs4, hk4, hl4⟩
  have lh : (shOf (.grp n b ms)).hs.length = (handsOf (.grp n b ms)).length := List.length_map _
  rw [List.length_map, ← lh, List.take_length] at hl4
  have dmH : Dm (HV K H10) H10 D4 (shOf (.grp n b ms)).hs := ⟨kvs4, hk4, hl4, by omega⟩
  have hp10 := e10 _ _ (e9 _ _ hpe)
  have e910 := e9.trans e10
  have dmP5 := dmP4.st (S := PaV K H10) (fun _ z => e910 _ _ z) fun _ _ z => z.st (ST.ex e910)
  have dmB5 := dmB4.st (S := BdV) (H' := H10) (fun _ z => e910 _ _ z) fun _ _ z => z
  have dmR5 := dmR4.st (S := PrV K H10) (fun _ z => e910 _ _ z) fun _ _ z => z.st (ST.ex e910)
  refine ⟨_, rfl, p, T.C_House, dx, _, rfl, hp10, T.cl_House, T.na_House_hands, (by show 5 < 1000; decide), ?_⟩
  have f6 : putF "hands" (.ref D4) (fl5 v a D D2 D3) = (fl6 v a D D2 D3 D4) := by rfl
  rw [f6]
  have kf := kp_upd (o := .ins T.C_House dx (fl6 v a D D2 D3 D4)) (ke.trans (Kp.ex e910))
  have k10 := kp_upd (p := p) (o := .ins T.C_House dx (fl6 v a D D2 D3 D4)) (Kp.ex (Ex.refl H10))
  have hpf : upd H10 p (.ins T.C_House dx (fl6 v a D D2 D3 D4)) p = some (.ins T.C_House dx (fl6 v a D D2 D3 D4)) := upd_same
  have s10 : ST K H10 (upd H10 p (.ins T.C_House dx (fl6 v a D D2 D3 D4))) := st_ins hp10 k10
  have dmP6 := dmP5.st (S := PaV K (upd H10 p (.ins T.C_House dx (fl6 v a D D2 D3 D4)))) (fun _ z => k10 _ _ (dmP5.ne hp10) (dmP5.ne hp10) z) fun _ _ z => z.st s10
  have dmB6 := dmB5.st (S := BdV) (fun _ z => k10 _ _ (dmB5.ne hp10) (dmB5.ne hp10) z) fun _ _ z => z
  have dmR6 := dmR5.st (S := PrV K (upd H10 p (.ins T.C_House dx (fl6 v a D D2 D3 D4)))) (fun _ z => k10 _ _ (dmR5.ne hp10) (dmR5.ne hp10) z) fun _ _ z => z.st s10
  have dmH6 := dmH.st (S := HV K (upd H10 p (.ins T.C_House dx (fl6 v a D D2 D3 D4)))) (fun _ z => k10 _ _ (dmH.ne hp10) (dmH.ne hp10) z) fun _ _ z => z.st s10
  generalize upd H10 p (.ins T.C_House dx (fl6 v a D D2 D3 D4)) = Hf at hpf kf dmP6 dmB6 dmR6 dmH6
  clear s10 k10
  -- self.groups
  have ndg : ((shOf (.grp n b ms)).gs.map (·.1)).Nodup := by
    rw [show (shOf (.grp n b ms)).gs.map (·.1) = groupsOf (.grp n b ms) from keys_new]
    exact nds.2.1
  refine s_fld ⟨_, rfl, v, n, b, ms, rfl, trv_tk (tk_kp hp kf) _ _ tv, tdp, hsz, fun a4 H19 e19 h19 => ⟨a4, rfl, ⟨_, st_of h19⟩, fun D5 hD5 => ?_⟩⟩
  have ap4 : D4 ≠ D5 := fun y => by
    obtain ⟨_, ee⟩ := dmH6.dk
    have := e19 _ _ ee
    rw [y, hD5] at this
    cases this
  refine dc_it (walk_tup (K := K) (a := a4) (xs := (groupsOf (.grp n b ms)).map V.str)) (fun i H' => Ex H19 H' ∧ ∃ kvs, H' D5 = some (.dK kvs) ∧ Paired (Kr (GV K H')) kvs ((shOf (.grp n b ms)).gs.take i)) ⟨Ex.new hD5, [], upd_same, .nil⟩ (fun i H' _ hP => st_of (hP.1 _ _ h19)) ?_ ?_
  · rintro i x H20 H21 hi ⟨e20, kvs5, hk5, hl5⟩ ⟨rfl, hx⟩
    obtain ⟨y, hy, rfl⟩ := map_at hx
    have hat : (shOf (.grp n b ms)).gs[i]? = some (y, ⟨none, 0, []⟩) := at_map hy
    refine ⟨rfl, tYesQ ?_⟩
    refine ⟨_, rfl, (by show 0 ≤ sizeLine; decide), fun t0 ht0 => ⟨(by show 3 ≤ sizeLine; decide), fun t ht => ?_⟩⟩
    have e21 := (Ex.new (o := .tup []) ht0).trans (Ex.new (o := .tup [.non, .int 0, .ref t0]) ht)
    have h0' : upd (upd H21 t0 (.tup [])) t (.tup [.non, .int 0, .ref t0]) t0 = some (.tup []) := (Ex.new ht) _ _ upd_same
    have ht' : upd (upd H21 t0 (.tup [])) t (.tup [.non, .int 0, .ref t0]) t = some (.tup [.non, .int 0, .ref t0]) := upd_same
    generalize upd (upd H21 t0 (.tup [])) t (.tup [.non, .int 0, .ref t0]) = H22 at e21 ht' h0'
    have hk22 := e21 _ _ hk5
    have ln := paired_len hl5
    rw [List.length_take] at ln
    have hl9 : i ≤ 1000 := by
      have := (List.getElem?_eq_some_iff.mp hy).1
      omega
    refine ⟨kvs5, .inr y, rfl, hk22, sz_lt (by omega), Ex.mut (e20.trans e21) hD5, _, upd_same, ?_⟩
    rw [take_one hat]
    have sk : ST K H22 (upd H22 D5 (.dK (putK kvs5 (.inr y) (.ref t)))) := ST.dk hk22
    exact kr_new (paired_mono (fun _ _ z => ⟨z.1, (z.2.st (ST.ex e21)).st sk⟩) hl5) (take_new ndg hat) ⟨t, .ref t0, rfl, sk _ _ (st_of ht'), t0, [], rfl, sk _ _ (st_of h0'), .nil⟩
  rintro H20 ⟨e20, kvs5, hk5, hl5⟩
  have lg : (shOf (.grp n b ms)).gs.length = (groupsOf (.grp n b ms)).length := List.length_map _
  rw [List.length_map, ← lg, List.take_length] at hl5
  have dmG : Dm (GV K H20) H20 D5 (shOf (.grp n b ms)).gs := ⟨kvs5, hk5, hl5, by omega⟩
  have e1920 := e19.trans e20
  have hp20 := e1920 _ _ hpf
  have dmP7 := dmP6.st (S := PaV K H20) (fun _ z => e1920 _ _ z) fun _ _ z => z.st (ST.ex e1920)
  have dmB7 := dmB6.st (S := BdV) (H' := H20) (fun _ z => e1920 _ _ z) fun _ _ z => z
  have dmR7 := dmR6.st (S := PrV K H20) (fun _ z => e1920 _ _ z) fun _ _ z => z.st (ST.ex e1920)
  have dmH7 := dmH6.st (S := HV K H20) (fun _ z => e1920 _ _ z) fun _ _ z => z.st (ST.ex e1920)
  refine ⟨_, rfl, p, T.C_House, dx, _, rfl, hp20, T.cl_House, T.na_House_groups, (by show 6 < 1000; decide), ?_⟩
  have f7 : putF "groups" (.ref D5) (fl6 v a D D2 D3 D4) = (HoA.mk p dx D D2 D3 D4 D5 v (.ref a)).fields := by rfl
  rw [f7]
  have kk := kp_upd (p := p) (o := .ins T.C_House dx (HoA.mk p dx D D2 D3 D4 D5 v (.ref a)).fields) (Kp.ex (Ex.refl H20))
  have sk : ST K H20 (upd H20 p (.ins T.C_House dx (HoA.mk p dx D D2 D3 D4 D5 v (.ref a)).fields)) := st_ins hp20 kk
  exact q (HoA.mk p dx D D2 D3 D4 D5 v (.ref a)) _ rfl rfl rfl ((kf.trans (Kp.ex e1920)).trans kk) ⟨upd_same, dmP7.st (fun _ z => kk _ _ (dmP7.ne hp20) (dmP7.ne hp20) z) fun _ _ z => z.st sk, dmB7.st (fun _ z => kk _ _ (dmB7.ne hp20) (dmB7.ne hp20) z) fun _ _ z => z, dmR7.st (fun _ z => kk _ _ (dmR7.ne hp20) (dmR7.ne hp20) z) fun _ _ z => z.st sk, dmH7.st (fun _ z => kk _ _ (dmH7.ne hp20) (dmH7.ne hp20) z) fun _ _ z => z.st sk, dmG.st (fun _ z => kk _ _ (dmG.ne hp20) (dmG.ne hp20) z) fun _ _ z => z.st sk⟩ ⟨ap1, ap2, ap3, ap4⟩
end
/-! ### a twin -/
theorem ho_newH {K : PySem.W.Frag} {C : Addr} {H : Hp} {B : HoA} {s : Sta} {x : SH} (h : HoAt K C H B s x) {D : Addr} {hs : List (Str × HR)} (dm : Dm (HV K H) H D hs) : HoAt K C (upd H B.p (.ins C B.dx (putF "hands" (.ref D) B.fields))) { B with hd := D } s ⟨hs, x.gs⟩ := by
  have k : Kp B.p B.p H (upd H B.p (.ins C B.dx (putF "hands" (.ref D) B.fields))) := Kp.ins (Kp.refl _ _ H)
  have st := st_ins (K := K) h.ob k
  have go : ∀ {a : Addr}, a ≠ B.p → ∀ o, H a = some o → upd H B.p (.ins C B.dx (putF "hands" (.ref D) B.fields)) a = some o := fun n o z => k _ _ n n z
  exact ⟨by rw [upd_same]; rfl, h.pa.st (go (h.pa.ne h.ob)) (fun _ _ z => z.st st), h.bo.st (go (h.bo.ne h.ob)) (fun _ _ z => z), h.pr.st (go (h.pr.ne h.ob)) (fun _ _ z => z.st st), dm.st (go (dm.ne h.ob)) (fun _ _ z => z.st st), h.gs.st (go (h.gs.ne h.ob)) (fun _ _ z => z.st st)⟩
theorem ho_newG {K : PySem.W.Frag} {C : Addr} {H : Hp} {B : HoA} {s : Sta} {x : SH} (h : HoAt K C H B s x) {D : Addr} {gs : List (Str × GR)} (dm : Dm (GV K H) H D gs) : HoAt K C (upd H B.p (.ins C B.dx (putF "groups" (.ref D) B.fields))) { B with gd := D } s ⟨x.hs, gs⟩ := by
  have k : Kp B.p B.p H (upd H B.p (.ins C B.dx (putF "groups" (.ref D) B.fields))) := Kp.ins (Kp.refl _ _ H)
  have st := st_ins (K := K) h.ob k
  have go : ∀ {a : Addr}, a ≠ B.p → ∀ o, H a = some o → upd H B.p (.ins C B.dx (putF "groups" (.ref D) B.fields)) a = some o := fun n o z => k _ _ n n z
  exact ⟨by rw [upd_same]; rfl, h.pa.st (go (h.pa.ne h.ob)) (fun _ _ z => z.st st), h.bo.st (go (h.bo.ne h.ob)) (fun _ _ z => z), h.pr.st (go (h.pr.ne h.ob)) (fun _ _ z => z.st st), h.hs.st (go (h.hs.ne h.ob)) (fun _ _ z => z.st st), dm.st (go (dm.ne h.ob)) (fun _ _ z => z.st st)⟩
def spTwin (K : PySem.W.Frag) (C : Addr) : Sp := fun vs H Q _ => ∃ (B : HoA) (x : SH) (n : Str) (b : Int) (ms : List Tr) (a : Addr) (ds : List PyData), vs = [.ref B.p] ∧ HoAt K C H B (staOf (.grp n b ms) (bookOf ds)) x ∧ B.bv = .ref a ∧ IniOk K H B.pv n b ms a ds ∧
  ∀ B' H', Ex H H' → H B'.p = none → B'.pv = B.pv → B'.bv = B.bv → HoAt K C H' B' (staOf (.grp n b ms) (bookOf ds)) x → Apt B' → Q (.ref B'.p) H'
section
variable {P : Program} {w : World} {K : PySem.W.Frag} {mg : Str → Option Value} {base : Heap}
theorem ok_House_twin (T : Tp w K mg) : FnOk P w K mg base CX0 18 T.f_House_twin T.d_House_twin ["self"] (spTwin K T.C_House) := by
  refine T.F_House_twin.ok sc_House_twin (fun vs H Q E h => ?_) (fun cdv A outer s H vs Q E hr h => ?_)
  · obtain ⟨B, x, n, b, ms, a, ds, rfl, _⟩ := h
    rfl
  obtain ⟨B, x, n, b, ms, a, ds, rfl, ho, hb, io, q⟩ := h
  refine ⟨_, (pss_cons (ps_set (i := 1) sc_House_twin.nd rfl (Or.inl rfl) (pe_make T.mk_House (ok_House___init__ T) (hr.mono (by decide)) rfl T.mc_House (b_House___init__ T) .nil pass0 (pa_cons (pe_fldK (K := K) rfl (pv 0) rfl) (pa_cons (pe_fldK (K := K) rfl (pv 0) rfl) pa_nil (star1 rfl)) (star1 rfl)) (by decide) (star1 rfl) (starAll rfl)))
  (pss_cons (ps_fld (pv 1) (pe_callTy call_dictD rfl T.z_dict (by decide +kernel) (pa_cons (pe_fldK (K := K) rfl (pv 0) rfl) pa_nil (star1 rfl)) (by decide) (by decide) (star1 rfl) (starAll rfl)) rfl)
  (pss_cons (ps_fld (pv 1) (pe_callTy call_dictD rfl T.z_dict (by decide +kernel) (pa_cons (pe_fldK (K := K) rfl (pv 0) rfl) pa_nil (star1 rfl)) (by decide) (by decide) (star1 rfl) (starAll rfl)) rfl)
  (pss_one (ps_ret (pv 1)))))), ?_⟩
  refine q_asgP ?_
  refine ⟨_, rfl, B.p, T.C_House, B.dx, B.fields, _, rfl, ho.ob, T.cl_House, T.na_House_plan, hf_pv, _, rfl, B.p, T.C_House, B.dx, B.fields, _, rfl, ho.ob, T.cl_House, T.na_House_book, hf_bv, fun p dx np ndx ne => ?_⟩
  have np' : upd H dx (.own p) p = none := by rw [upd_ne (Ne.symm ne)]; exact np
  have e1 : Ex H (upd (upd H dx (.own p)) p (.ins T.C_House dx [])) := (Ex.new ndx).trans (Ex.new np')
  have h1 : upd (upd H dx (.own p)) p (.ins T.C_House dx []) p = some (.ins T.C_House dx []) := upd_same
  generalize upd (upd H dx (.own p)) p (.ins T.C_House dx []) = H1 at e1 h1
  refine ⟨p, dx, B.pv, n, b, ms, a, ds, by rw [hb]; rfl, h1, io.ex e1, fun B1 H2 b1 b2 b3 k2 ho2 _ => ⟨rfl, ?_⟩⟩
  have e2 : Ex H H2 := ex_kp e1 np k2
  have hoB := ho.ex e2
  -- the hands, copied
  obtain ⟨kv1, d1, p1, l1⟩ := id hoB.hs
  refine q_fld ⟨_, rfl, B.p, _, B.dx, B.fields, _, rfl, hoB.ob, T.cl_House, T.na_House_hands, hf_hd, B.hd, kv1, rfl, Or.inl d1, fun hd nhd => ?_⟩
  have nw : ∀ {α : Type} {R : V → α → Prop} {d : Addr} {ys : List (Str × α)}, Dm R H2 d ys → hd ≠ d := fun dm y => by
    obtain ⟨_, ee⟩ := dm.dk
    rw [← y, nhd] at ee
    cases ee
  have ap1 := nw ho2.pa
  have ap2 := nw ho2.bo
  have ap3 := nw ho2.pr
  clear nw
  have e3 := Ex.new (o := .dK kv1) nhd
  have dm3 : Dm (HV K (upd H2 hd (.dK kv1))) (upd H2 hd (.dK kv1)) hd x.hs := ⟨kv1, upd_same, paired_mono (fun _ _ z => ⟨z.1, z.2.st (ST.ex e3)⟩) p1, l1⟩
  generalize upd H2 hd (.dK kv1) = H3 at e3 dm3
  have ho3 := ho2.ex e3
  have pB : B1.p = p := b1
  subst pB
  refine ⟨_, rfl, B1.p, _, B1.dx, B1.fields, rfl, ho3.ob, T.cl_House, T.na_House_hands, (by show 7 < 1000; decide), ?_⟩
  have ho4 := ho_newH ho3 dm3
  have k4 : Kp B1.p B1.p H3 (upd H3 B1.p (.ins T.C_House B1.dx (putF "hands" (.ref hd) B1.fields))) := Kp.ins (Kp.refl _ _ H3)
  generalize upd H3 B1.p (.ins T.C_House B1.dx (putF "hands" (.ref hd) B1.fields)) = H4 at ho4 k4
  have e4 : Ex H H4 := ex_kp (e2.trans e3) np k4
  have hoB4 := ho.ex e4
  -- the groups, copied
  obtain ⟨kv2, d2, p2, l2⟩ := id hoB4.gs
  refine q_fld ⟨_, rfl, B.p, _, B.dx, B.fields, _, rfl, hoB4.ob, T.cl_House, T.na_House_groups, hf_gd, B.gd, kv2, rfl, Or.inl d2, fun gd ngd => ?_⟩
  have ap4 : hd ≠ gd := fun y => by
    obtain ⟨_, ee⟩ := ho4.hs.dk
    have ee : H4 hd = _ := ee
    rw [y, ngd] at ee
    cases ee
  have e5 := Ex.new (o := .dK kv2) ngd
  have dm5 : Dm (GV K (upd H4 gd (.dK kv2))) (upd H4 gd (.dK kv2)) gd x.gs := ⟨kv2, upd_same, paired_mono (fun _ _ z => ⟨z.1, z.2.st (ST.ex e5)⟩) p2, l2⟩
  generalize upd H4 gd (.dK kv2) = H5 at e5 dm5
  have ho5 := ho4.ex e5
  refine ⟨_, rfl, B1.p, _, B1.dx, _, rfl, ho5.ob, T.cl_House, T.na_House_groups, (by show 7 < 1000; decide), ?_⟩
  have ho6 := ho_newG ho5 dm5
  have k6 := Kp.ins (o := .ins T.C_House B1.dx (putF "groups" (.ref gd) (HoA.fields { B1 with hd := hd }))) (Kp.refl B1.p B1.p H5)
  exact s_ret (ev_var rfl) fun H6 e6 => q { B1 with hd := hd, gd := gd } H6 ((ex_kp (e4.trans e5) np k6).trans e6) np b2 (by rw [hb]; exact b3) (ho6.ex e6) ⟨ap1, ap2, ap3, ap4⟩
end
/-! ### two houses compared -/
theorem q_ifP {t : TT} {tu tz : TS} {D : Ends} {σ : L2.St} {H : Hp} (h : t σ H fun c H1 => if c = true then tu { D with nx := tz D } σ H1 else tz D σ H1) : tSeq (tIfS t tu tNext) tz D σ H := h
theorem hu_e70 {k : Nat} {A : Around} (hr : Room k A) : A.units + 70 < cLine := by
  have := hu_r hr
  omega
theorem hu_e64' {k : Nat} {A : Around} (hr : Room k A) : A.units + 64 < cLine := by
  have := hu_r hr
  omega
theorem how_lay (h : How) : PyData.strOk h.str = true := by cases h <;> decide +kernel
theorem hr_shaped (r : HR) : SeqAt.shaped (hrD r) = true := by
  unfold SeqAt.shaped
  rw [Bool.and_eq_true]
  refine ⟨?_, ?_⟩
  · show (true && (true && (PyData.strOk r.how.str && (PyData.canLay0 (optD r.looks) && true)))) = true
    rw [how_lay]
    cases r.looks <;> rfl
  · unfold hrD
    cases r.looks <;> rfl
theorem pls_lay : ∀ (ps : List (Str × Bool)), (∀ p ∈ ps, nameOk p.1) → PyData.canLayAll0 (ps.map plD) = true ∧ PyData.depthAll (ps.map plD) ≤ 2
  | [], _ => ⟨rfl, by decide⟩
  | p :: t, h => by
    obtain ⟨i1, i2⟩ := pls_lay t fun q hq => h q (List.mem_cons_of_mem _ hq)
    refine ⟨?_, ?_⟩
    · show ((PyData.strOk p.1 && (true && true)) && PyData.canLayAll0 (t.map plD)) = true
      rw [i1, ok_lay (h p List.mem_cons_self)]
      rfl
    · show max (max 0 (max 0 0) + 1) (PyData.depthAll (t.map plD)) ≤ 2
      omega
theorem gr_shaped (g : GR) (ho : ∀ m, g.holder = some m → nameOk m) (hp : ∀ p ∈ g.places, nameOk p.1) : SeqAt.shaped (grD g) = true := by
  obtain ⟨a, b⟩ := pls_lay g.places hp
  unfold SeqAt.shaped
  rw [Bool.and_eq_true]
  have e : PyData.canLay0 (optDS g.holder) = true ∧ PyData.depth (optDS g.holder) = 0 := by
    cases z : g.holder with
    | none => exact ⟨rfl, rfl⟩
    | some m => exact ⟨ok_lay (ho m z), rfl⟩
  refine ⟨?_, decide_eq_true ?_⟩
  · show (PyData.canLay0 (optDS g.holder) && (true && (PyData.canLayAll0 (g.places.map plD) && true))) = true
    rw [e.1, a]
    rfl
  · show max (PyData.depth (optDS g.holder)) (max 0 (max (PyData.depthAll (g.places.map plD) + 1) 0)) + 1 ≤ 64
    rw [e.2]
    omega
/-- a row of names with data on both sides, the same names and values: all hits -/
theorem hits_same {K : PySem.W.Frag} {H : Hp} {α : Type} {R R' : V → α → Prop} {ls : List (Key × V)} {ys : List (Str × α)} (hl : Paired (Kr R') ls ys) (fd : ∀ n v u x, getN ys n = some x → R v x → R' u x → FD K H v u true) : ∀ {ks : List (Key × V)} {xs : List (Str × α)}, Paired (Kr R) ks xs → (∀ n x, (n, x) ∈ xs → getN ys n = some x) → HitD K H ls ks true
  | _, _, .nil, _ => .nil
  | (k, v) :: ks, (n, x) :: xs, .cons h t, hs => by
    have hk : k = .inr n := h.1
    subst hk
    have hx := hs n x List.mem_cons_self
    rcases kr_val n hl with ⟨_, b⟩ | ⟨u, y, a, b, r⟩
    · rw [hx] at b
      cases b
    · rw [hx] at b
      cases b
      exact HitD.hit (e := true) (b := true) a (fd n v u x hx h.2 r) (hits_same hl fd t fun n' x' hm => hs n' x' (List.mem_cons_of_mem _ hm))
def spEqH (K : PySem.W.Frag) (C : Addr) : Sp := fun vs H Q _ => ∃ (B B2 : HoA) (s s2 : Sta) (x : SH) (dp db : PyData), vs = [.ref B.p, .ref B2.p] ∧ HoAt K C H B s x ∧ HoAt K C H B2 s2 x ∧ (x.hs.map (·.1)).Nodup ∧ (x.gs.map (·.1)).Nodup ∧
  Dp K H B.pv dp ∧ Dp K H B2.pv dp ∧ SeqAt.shaped dp = true ∧ Dp K H B.bv db ∧ Dp K H B2.bv db ∧ SeqAt.shaped db = true ∧ (∀ g r, getN x.gs g = some r → (∀ m, r.holder = some m → nameOk m) ∧ ∀ p ∈ r.places, nameOk p.1) ∧ ∀ H', Ex H H' → Q (.bl true) H'
section
variable {P : Program} {w : World} {K : PySem.W.Frag} {mg : Str → Option Value} {base : Heap}
theorem ok_House___eq__ (T : Tp w K mg) : FnOk P w K mg base CX0 1 T.f_House___eq__ T.d_House___eq__ ["self", "other"] (spEqH K T.C_House) := by
  refine T.F_House___eq__.ok sc_House___eq__ (fun vs H Q E h => ?_) (fun cdv A outer s H vs Q E hr h => ?_)
  · obtain ⟨B, B2, s, s2, x, dp, db, rfl, _⟩ := h
    rfl
  obtain ⟨B, B2, s, s2, x, dp, db, rfl, ho, ho2, nd1, nd2, p1, p2, sp, b1, b2, sb, nm, q⟩ := h
  refine ⟨_, (pss_cons (ps_if (pt_not (pt_val (pe_callB (isiK (K := K) rfl) rfl T.z_isinstance (by decide +kernel) (pa_cons (pv 1) (pa_cons (pe_glob (v := .ref T.C_House) rfl T.mc_House rfl) pa_nil (star1 rfl)) (star1 rfl)) (by decide) (by decide) (star1 rfl) (starAll rfl)))) (pss_one (ps_ret pe_bl)) pss_nil)
  (pss_cons (ps_if (PW.pt (pw_or (pt_cmpR (neDK (K := K) rfl (hu_e64' hr)) (pe_fldK (K := K) rfl (pv 0) rfl) (pe_fldK (K := K) rfl (pv 1) rfl) (nomark _)) (pw_or1 (pt_cmpR (neDK (K := K) rfl (hu_e64' hr)) (pe_fldK (K := K) rfl (pv 0) rfl) (pe_fldK (K := K) rfl (pv 1) rfl) (nomark _))))) (pss_one (ps_ret pe_bl)) pss_nil)
  (pss_one (ps_ret (pe_and (pe_cmpR (eqDDK (K := K) rfl (hu_e70 hr)) (pe_fldK (K := K) rfl (pv 0) rfl) (pe_fldK (K := K) rfl (pv 1) rfl) (nomark _)) (pe_one (pe_cmpR (eqDDK (K := K) rfl (hu_e70 hr)) (pe_fldK (K := K) rfl (pv 0) rfl) (pe_fldK (K := K) rfl (pv 1) rfl) (nomark _)))))))), ?_⟩
  refine q_ifP ?_
  refine ⟨_, rfl, .ref B2.p, .ref T.C_House, .ref T.C_House, .ref T.C_House, true, rfl, .own _, .base (.ins ho2.ob T.cl_House T.ic_House T.ic_get T.ic_tk T.ic_mro), by simp [PySem.W.kitOne], ?_⟩
  refine ⟨_, rfl, iteF' rfl ?_⟩
  refine q_ifP ?_
  have ref : ∀ d : PyData, SeqAt.shaped d = true → PyData.eqv d d = true := fun d h => SeqAt.eqv_refl d (SeqAt.canLay_of_shaped h)
  refine ⟨_, rfl, B.p, T.C_House, B.dx, B.fields, _, rfl, ho.ob, T.cl_House, T.na_House_plan, hf_pv, _, rfl, B2.p, T.C_House, B2.dx, B2.fields, _, rfl, ho2.ob, T.cl_House, T.na_House_plan, hf_pv, dp, dp, p1, p2, sp, sp, ?_⟩
  rw [ref dp sp]
  refine ⟨_, rfl, iteF' rfl ?_⟩
  refine ⟨_, rfl, B.p, T.C_House, B.dx, B.fields, _, rfl, ho.ob, T.cl_House, T.na_House_book, hf_bv, _, rfl, B2.p, T.C_House, B2.dx, B2.fields, _, rfl, ho2.ob, T.cl_House, T.na_House_book, hf_bv, db, db, b1, b2, sb, sb, ?_⟩
  rw [ref db sb]
  refine ⟨_, rfl, ?_⟩
  refine iteF' rfl ?_
  obtain ⟨k1, h1, r1, l1⟩ := ho.hs
  obtain ⟨k2, h2, r2, l2⟩ := ho2.hs
  obtain ⟨k3, h3, r3, l3⟩ := ho.gs
  obtain ⟨k4, h4, r4, l4⟩ := ho2.gs
  have n12 : (k1.length == k2.length && true) = true := by rw [paired_len r1, paired_len r2]; simp
  have n34 : (k3.length == k4.length && true) = true := by rw [paired_len r3, paired_len r4]; simp
  have hitH : HitD K H k2 k1 true := hits_same r2 (fun n v u x hx hv hu => ⟨hrD x, hrD x, hv.dp, hu.dp, hr_shaped x, hr_shaped x, ref _ (hr_shaped x)⟩) r1 fun n x hm => getN_mem nd1 hm
  have hitG : HitD K H k4 k3 true := hits_same r4 (fun n v u x hx hv hu => ⟨grD x, grD x, hv.dp, hu.dp, gr_shaped x (nm n x hx).1 (nm n x hx).2, gr_shaped x (nm n x hx).1 (nm n x hx).2, ref _ (gr_shaped x (nm n x hx).1 (nm n x hx).2)⟩) r3 fun n x hm => getN_mem nd2 hm
  refine ⟨_, rfl, B.p, T.C_House, B.dx, B.fields, _, rfl, ho.ob, T.cl_House, T.na_House_hands, hf_hd, _, rfl, B2.p, T.C_House, B2.dx, B2.fields, _, rfl, ho2.ob, T.cl_House, T.na_House_hands, hf_hd, B.hd, B2.hd, k1, k2, true, rfl, rfl, h1, h2, hitH, ?_⟩
  rw [n12]
  refine ⟨_, rfl, iteT' rfl ?_⟩
  refine ⟨_, rfl, B.p, T.C_House, B.dx, B.fields, _, rfl, ho.ob, T.cl_House, T.na_House_groups, hf_gd, _, rfl, B2.p, T.C_House, B2.dx, B2.fields, _, rfl, ho2.ob, T.cl_House, T.na_House_groups, hf_gd, B.gd, B2.gd, k3, k4, true, rfl, rfl, h3, h4, hitG, ?_⟩
  rw [n34]
  exact q H (Ex.refl H)
end
/-! ### small things -/
theorem asc_nm {n : Str} (h : nameOk n) : asc n := fun c hc => by
  have := h.2.2 c hc
  omega
theorem dya_ln {K : PySem.W.Frag} {H : Hp} : ∀ {vs : List V} {ds : List PyData}, DyAll K H vs ds → vs.length = ds.length
  | _, _, .nil => rfl
  | _, _, .cons _ t => by rw [List.length_cons, List.length_cons, dya_ln t]
/-! ### a state that came by steps has small names and numbers -/
section
variable {n : Str} {b : Int} {ms : List Tr} {bk : List (Str × List Row)} {x : SH} {N L M : Nat}
theorem dz_new : DZ nameOk L 1 (shOf (.grp n b ms)).hs (shOf (.grp n b ms)).gs := by
  refine ⟨fun h r hr => ?_, fun g r hr => ?_⟩
  · obtain ⟨y, _, e⟩ := List.mem_map.mp (mem_getN hr)
    cases e
    exact ⟨⟨show (-1 : Int) ≤ 0 by decide, show (0 : Int) ≤ 1 by decide⟩, fun l e => by cases e⟩
  · obtain ⟨y, _, e⟩ := List.mem_map.mp (mem_getN hr)
    cases e
    exact ⟨⟨Int.le_refl _, show (0 : Int) ≤ 1 by decide⟩, (fun m e => by cases e), fun p hp => by cases hp⟩
theorem paths_A (so : SOk (staOf (.grp n b ms) bk) (handsOf (.grp n b ms)) (groupsOf (.grp n b ms)) n) (nm : ∀ y ∈ (Tr.grp n b ms).nms, nameOk y) : ∀ m p, getN (staOf (.grp n b ms) bk).paths m = some p → nameOk m ∧ ∀ y ∈ p, nameOk y := fun m p hp => by
  refine ⟨nm m ?_, fun y hy => nm y (groups_in _ y (path_gk so hp y hy))⟩
  have := some_key (paths_nms (.grp n b ms)) hp
  exact this
/-- a step, once more -/
theorem step_all (so : SOk (staOf (.grp n b ms) bk) (handsOf (.grp n b ms)) (groupsOf (.grp n b ms)) n) (nm : ∀ y ∈ (Tr.grp n b ms).nms, nameOk y) (hl : ∀ h rows, getN bk h = some rows → ∀ l, Row.take (some l) ∈ rows → l ≤ (L : Int)) (f : WF (staOf (.grp n b ms) bk) (handsOf (.grp n b ms)) (groupsOf (.grp n b ms)) n x N) (z : DZ nameOk L M x.hs x.gs) (hN : N ≤ 1000) (hM : 1 ≤ M) {h : Str} (hh : h ∈ handsOf (.grp n b ms)) :
    ∃ r, getN x.hs h = some r ∧ howOk (staOf (.grp n b ms) bk) (draftOf x) h r ∧ (stepP (staOf (.grp n b ms) bk) x h).2.length ≤ 58000 ∧ WF (staOf (.grp n b ms) bk) (handsOf (.grp n b ms)) (groupsOf (.grp n b ms)) n (stepP (staOf (.grp n b ms) bk) x h).1 (N + 1) ∧ DZ nameOk L (M + 1) (stepP (staOf (.grp n b ms) bk) x h).1.hs (stepP (staOf (.grp n b ms) bk) x h).1.gs := by
  obtain ⟨r, hr⟩ := key_some f.ks hh
  obtain ⟨a, c, d⟩ := step_wf so hN f hr
  exact ⟨r, hr, a, c, d, step_z hM (paths_A so nm) hl z⟩
end
/-! ### a house that came by steps -/
def rowZ (r : Row) : Prop := ∀ i, (r = .take (some i) ∨ r = .say i ∨ r = .goto i ∨ ∃ a, r = .iff a i) → i.natAbs ≤ 1000000000
theorem okDs_at {B : Nat} : ∀ {ds : List PyData}, okDs B ds → ∀ d ∈ ds, okD B d
  | [], _, _, h => by cases h
  | e :: ds, k, d, h => by
    rcases List.mem_cons.mp h with z | z
    · rw [z]
      exact k.1
    · exact okDs_at k.2 d z
theorem rowOf_z {d : PyData} {r : Row} (h : rowOf d = some r) (k : okD 1000000000 d) : rowZ r := by
  unfold rowOf at h
  split at h
  · split at h
    · cases h
      intro i e
      rcases e with e | e | e | ⟨_, e⟩ <;> cases e
    · split at h
      · cases h
        intro i e
        rcases e with e | e | e | ⟨_, e⟩ <;> cases e
      · cases h
  · split at h
    · cases h
      intro i e
      rcases e with e | e | e | ⟨_, e⟩ <;> cases e
    · cases h
  · simp only [okD, okDs] at k
    split at h
    · cases h
      intro i e
      rcases e with e | e | e | ⟨_, e⟩ <;> cases e
      exact k.2.1
    · split at h
      · cases h
        intro i e
        rcases e with e | e | e | ⟨_, e⟩ <;> cases e
        exact k.2.1
      · split at h
        · cases h
          intro i e
          rcases e with e | e | e | ⟨_, e⟩ <;> cases e
          exact k.2.1
        · cases h
  · simp only [okD, okDs] at k
    split at h
    · cases h
      intro i e
      rcases e with e | e | e | ⟨_, e⟩ <;> cases e
      exact k.2.2.1
    · cases h
  · cases h
theorem prog_z {d : PyData} (k : okD 1000000000 d) : ∀ r ∈ progOf d, rowZ r := by
  unfold progOf
  split
  · intro r hr
    simp only [okD] at k
    obtain ⟨d', hd, e⟩ := List.mem_filterMap.mp hr
    exact rowOf_z e (okDs_at k d' hd)
  · intro r hr
    cases hr
theorem book_z {ds : List PyData} (k : okDs 1000000000 ds) : ∀ y ∈ bookOf ds, ∀ r ∈ y.2, rowZ r := by
  intro y hy r hr
  unfold bookOf at hy
  obtain ⟨d, hd, rfl⟩ := List.mem_map.mp hy
  have kd := okDs_at k d hd
  split at hr
  · simp only [okD, okDs] at kd
    exact prog_z kd.2.1 r hr
  · cases hr
theorem io_facts {K : PySem.W.Frag} {H : Hp} {v : V} {n : Str} {b : Int} {ms : List Tr} {a : Addr} {ds : List PyData} (io : IniOk K H v n b ms a ds) : (∀ h ∈ handsOf (.grp n b ms), ∃ rows, getN (bookOf ds) h = some rows) ∧ (∀ h rows, getN (bookOf ds) h = some rows → progOk rows) ∧ ∀ h rows, getN (bookOf ds) h = some rows → ∀ r ∈ rows, rowZ r := by
  obtain ⟨o, xs, h1, h2, tds⟩ := io.bk
  obtain ⟨ys, hpm, hsd, hbk⟩ := io.ys
  have pb : (∀ d ∈ ds, pairB d = true) ∧ ds.map pairName = ys := by
    unfold bookB at hbk
    rw [Bool.and_eq_true] at hbk
    exact ⟨List.all_eq_true.mp hbk.1, of_decide_eq_true hbk.2⟩
  obtain ⟨ps, kvs, hxs, hkv, hpr, hbn, hok⟩ := book_v tds.all.1 pb.1 fun d hd => Nat.le_trans (nodes_td tds d hd) (by decide)
  refine ⟨fun h hh => ?_, fun h rows hg => hok _ (mem_getN hg), fun h rows hg => book_z tds.all.2.2.2.2.2 _ (mem_getN hg)⟩
  have : (getN (bookOf ds) h).isSome = true := by
    rw [getN_isSome, hbn, pb.2]
    exact decide_eq_true (hpm.mem_iff.mpr hh)
  exact Option.isSome_iff_exists.mp this
theorem io_sok {K : PySem.W.Frag} {H : Hp} {v : V} {n : Str} {b : Int} {ms : List Tr} {a : Addr} {ds : List PyData} (io : IniOk K H v n b ms a ds) : SOk (staOf (.grp n b ms) (bookOf ds)) (handsOf (.grp n b ms)) (groupsOf (.grp n b ms)) n := sok_of io.nd io.dp (io_facts io).1 (io_facts io).2.1
theorem IniOk.gd {K : PySem.W.Frag} {H H' : Hp} {v : V} {n : Str} {b : Int} {ms : List Tr} {a : Addr} {ds : List PyData} (i : IniOk K H v n b ms a ds) (g : Gd H H') : IniOk K H' v n b ms a ds := by
  obtain ⟨o, xs, h1, h2, h3⟩ := i.bk
  exact ⟨trv_tk g.tk _ _ i.tv, i.ok, i.dp, i.sz, i.nd, i.nm, ⟨o, xs, g _ _ h1 (fun _ y => by cases y) (fun _ _ _ y => by cases y), h2, h3.st g.st⟩, i.dl, i.ys⟩
structure Hse (K : PySem.W.Frag) (C : Addr) (H : Hp) (B : HoA) (n : Str) (b : Int) (ms : List Tr) (a : Addr) (ds : List PyData) (x : SH) (N : Nat) : Prop where
  ho : HoAt K C H B (staOf (.grp n b ms) (bookOf ds)) x
  bv : B.bv = .ref a
  io : IniOk K H B.pv n b ms a ds
  wf : WF (staOf (.grp n b ms) (bookOf ds)) (handsOf (.grp n b ms)) (groupsOf (.grp n b ms)) n x N
  dz : DZ nameOk 1000000000 (N + 1) x.hs x.gs
  ap : Apt B
section
variable {K : PySem.W.Frag} {C : Addr} {H H' : Hp} {B : HoA} {n : Str} {b : Int} {ms : List Tr} {a : Addr} {ds : List PyData} {x : SH} {N : Nat}
theorem Hse.gd (h : Hse K C H B n b ms a ds x N) (g : Gd H H') (ob : ∀ o, H B.p = some o → H' B.p = some o) : Hse K C H' B n b ms a ds x N := ⟨h.ho.gd g ob, h.bv, h.io.gd g, h.wf, h.dz, h.ap⟩
theorem Hse.ex (h : Hse K C H B n b ms a ds x N) (e : Ex H H') : Hse K C H' B n b ms a ds x N := h.gd (Gd.ex e) fun _ z => e _ _ z
theorem hse_new (ho : HoAt K C H B (staOf (.grp n b ms) (bookOf ds)) (shOf (.grp n b ms))) (bv : B.bv = .ref a) (io : IniOk K H B.pv n b ms a ds) (ap : Apt B) : Hse K C H B n b ms a ds (shOf (.grp n b ms)) 0 := ⟨ho, bv, io, wf_new (io_sok io), dz_new, ap⟩
theorem Hse.next (h : Hse K C H B n b ms a ds x N) {m : Str} (hm : m ∈ handsOf (.grp n b ms)) (hN : N ≤ 1000) : ∃ r, getN x.hs m = some r ∧ howOk (staOf (.grp n b ms) (bookOf ds)) (draftOf x) m r ∧ (stepP (staOf (.grp n b ms) (bookOf ds)) x m).2.length ≤ 90000 ∧ (∀ e ∈ (stepP (staOf (.grp n b ms) (bookOf ds)) x m).2, EvZ e) ∧
    ∀ {B' : HoA} {H' : Hp}, B.same B' → HoAt K C H' B' (staOf (.grp n b ms) (bookOf ds)) (stepP (staOf (.grp n b ms) (bookOf ds)) x m).1 → Kp B.p B.p H H' → Apt B' → Hse K C H' B' n b ms a ds (stepP (staOf (.grp n b ms) (bookOf ds)) x m).1 (N + 1) := by
  have so := io_sok h.io
  obtain ⟨f1, f2, f3⟩ := io_facts h.io
  have hl : ∀ h rows, getN (bookOf ds) h = some rows → ∀ l, Row.take (some l) ∈ rows → l ≤ ((1000000000 : Nat) : Int) := fun h' rows hg l hm' => by
    have := f3 h' rows hg _ hm' l (Or.inl rfl)
    omega
  obtain ⟨r, h1, h2, h3, h4, h5⟩ := step_all so h.io.nm hl h.wf h.dz hN (Nat.le_add_left 1 N) hm
  refine ⟨r, h1, h2, by omega, ?_, fun {B' H'} sm ho k ap => ⟨ho, ?_, ?_, h4, h5, ap⟩⟩
  · refine step_t (A := nameOk) (L := 1000000000) (N := N + 1) (fun y hy => ⟨asc_nm hy, by have := hy.2.1; omega⟩) (Nat.le_add_left 1 N) (h.io.nm m (hands_in _ m hm)) (paths_A so h.io.nm) (fun rows hg i hi => ?_) (fun r' hr' => ?_) h.dz
    · have z : i.natAbs ≤ 1000000000 := by
        rcases hi with hi | hi | ⟨a', hi⟩
        · exact f3 m rows hg _ hi i (Or.inr (Or.inl rfl))
        · exact f3 m rows hg _ hi i (Or.inr (Or.inr (Or.inl rfl)))
        · exact f3 m rows hg _ hi i (Or.inr (Or.inr (Or.inr ⟨a', rfl⟩)))
      omega
    · obtain ⟨rows, hp, hl', _⟩ := so.pr m hm
      have ri := h.wf.ri m r' rows hr' hp
      omega
  · rw [sm.2.2.2.2.2.2]
    exact h.bv
  · rw [sm.2.2.2.2.2.1]
    exact h.io.kp h.ho.ob k
end
mutual
theorem has_hand : ∀ (t : Tr) (p : List Str), t.ok → 1 ≤ ((t.told p).filter fun r => !r.2.1).length
  | .hand n, p, _ => by simp [Tr.told]
  | .grp n b ms, p, h => by
    have := has_hands ms (n :: p) h.2.2.1 h.2.2.2
    simp only [Tr.told, List.filter_cons]
    simpa using this
theorem has_hands : ∀ (ts : List Tr) (p : List Str), ts ≠ [] → oks ts → 1 ≤ ((tolds ts p).filter fun r => !r.2.1).length
  | [], p, h, _ => absurd rfl h
  | t :: ts, p, _, h => by
    have := has_hand t p h.1
    simp only [tolds, List.filter_append, List.length_append]
    omega
end
theorem hands_pos {t : Tr} (h : t.ok) : 1 ≤ (handsOf t).length := by
  unfold handsOf
  rw [List.length_map]
  exact has_hand t [] h
/-! ### a plan of one to three levels -/
def nsA : List Str := ["a", "b", "c", "d", "e", "f", "g"]
def nsB : List Str := ["zz", "y", "m", "abcdefgh", "k", "b", "aa"]
def hds (xs : List Str) : List Tr := xs.map Tr.hand
def n38 (ns : List Str) (i : Nat) : Str := ns.getD i ""
def in38 (ns : List Str) (k : Nat) (b : Int) : Tr := .grp "p" b (hds (ns.take (k + 1)))
def out38 (ns : List Str) (k : Nat) (b1 b2 : Int) : Tr := .grp "q" b2 [in38 ns k b1, .hand (n38 ns 3)]
def ms38 (ns : List Str) (k : Nat) (b1 b2 b3 : Int) : Nat → List Tr
  | 0 => hds (ns.take (k + 2))
  | 1 => [.hand (n38 ns 5), in38 ns k b1]
  | 2 => [in38 ns k b1, .grp "q" b2 [.hand (n38 ns 3), .hand (n38 ns 4)]]
  | 3 => [out38 ns k b1 b2, .hand (n38 ns 4)]
  | _ => [out38 ns k b1 b2, .grp "r" b3 [.hand (n38 ns 5), .hand (n38 ns 6)]]
def w38 (ns : List Str) (k : Nat) : Nat → List Str
  | 0 => "w" :: ns.take (k + 2)
  | 1 => "w" :: n38 ns 5 :: "p" :: ns.take (k + 1)
  | 2 => "w" :: "p" :: (ns.take (k + 1) ++ (["q", n38 ns 3, n38 ns 4] : List Str))
  | 3 => "w" :: "q" :: "p" :: (ns.take (k + 1) ++ [n38 ns 3, n38 ns 4])
  | _ => "w" :: "q" :: "p" :: (ns.take (k + 1) ++ ([n38 ns 3, "r", n38 ns 5, n38 ns 6] : List Str))
theorem hds_nms : ∀ xs : List Str, nmss (hds xs) = xs
  | [] => rfl
  | x :: xs => by
    show x :: nmss (hds xs) = x :: xs
    rw [hds_nms xs]
theorem hds_ok : ∀ xs : List Str, oks (hds xs)
  | [] => trivial
  | x :: xs => ⟨trivial, hds_ok xs⟩
theorem hds_deep : ∀ xs : List Str, deeps (hds xs) = 0
  | [] => rfl
  | x :: xs => by
    show max 0 (deeps (hds xs)) = 0
    rw [hds_deep xs]
    rfl
theorem nms38 (ns : List Str) (k : Nat) (b0 b1 b2 b3 : Int) (w : Nat) : (Tr.grp "w" b0 (ms38 ns k b1 b2 b3 w)).nms = w38 ns k w := by
  match w with
  | 0 => simp [ms38, w38, Tr.nms, hds_nms]
  | 1 => simp [ms38, w38, Tr.nms, nmss, in38, hds_nms]
  | 2 => simp [ms38, w38, Tr.nms, nmss, in38, hds_nms]
  | 3 => simp [ms38, w38, Tr.nms, nmss, in38, out38, hds_nms]
  | _ + 4 => simp [ms38, w38, Tr.nms, nmss, in38, out38, hds_nms]
theorem w38_nd : ∀ ns ∈ [nsA, nsB], ∀ w < 5, ∀ k < 3, (w38 ns k w).Nodup := by decide +kernel
theorem w38_nm : ∀ ns ∈ [nsA, nsB], ∀ w < 5, ∀ k < 3, ∀ x ∈ w38 ns k w, nameOk x := by
  unfold nameOk
  decide +kernel
theorem w38_sz : ∀ ns ∈ [nsA, nsB], ∀ w < 5, ∀ k < 3, (w38 ns k w).length ≤ 10 := by decide +kernel
theorem w38_nb : ∀ ns ∈ [nsA, nsB], ∀ w < 5, ∀ k < 3, ("nobody" : Str) ∉ w38 ns k w := by decide +kernel
theorem ok38 (ns : List Str) (hn : ns ≠ []) (k : Nat) {b0 b1 b2 b3 : Int} (h0 : 1 ≤ b0 ∧ b0 ≤ 3) (h1 : 1 ≤ b1 ∧ b1 ≤ 3) (h2 : 1 ≤ b2 ∧ b2 ≤ 3) (h3 : 1 ≤ b3 ∧ b3 ≤ 3) (w : Nat) : (Tr.grp "w" b0 (ms38 ns k b1 b2 b3 w)).ok := by
  have ne : ∀ j, hds (ns.take (j + 1)) ≠ [] := fun j z => by
    cases ns with
    | nil => exact hn rfl
    | cons x xs => simp [hds] at z
  have hin : (in38 ns k b1).ok := ⟨by omega, by omega, ne k, hds_ok _⟩
  have hout : (out38 ns k b1 b2).ok := ⟨by omega, by omega, by simp, hin, trivial, trivial⟩
  refine ⟨by omega, by omega, ?_, ?_⟩
  · match w with
    | 0 => exact ne (k + 1)
    | 1 => simp [ms38]
    | 2 => simp [ms38]
    | 3 => simp [ms38]
    | _ + 4 => simp [ms38]
  · match w with
    | 0 => exact hds_ok _
    | 1 => exact ⟨trivial, hin, trivial⟩
    | 2 => exact ⟨hin, ⟨by omega, by omega, by simp, trivial, trivial, trivial⟩, trivial⟩
    | 3 => exact ⟨hout, trivial, trivial⟩
    | _ + 4 => exact ⟨hout, ⟨by omega, by omega, by simp, trivial, trivial, trivial⟩, trivial⟩
theorem dp38 (ns : List Str) (k : Nat) (b0 b1 b2 b3 : Int) (w : Nat) : (Tr.grp "w" b0 (ms38 ns k b1 b2 b3 w)).deep ≤ 3 := by
  match w with
  | 0 => simp [ms38, Tr.deep, deeps, hds_deep]
  | 1 => simp [ms38, Tr.deep, deeps, in38, hds_deep]
  | 2 => simp [ms38, Tr.deep, deeps, in38, hds_deep]
  | 3 => simp [ms38, Tr.deep, deeps, in38, out38, hds_deep]
  | _ + 4 => simp [ms38, Tr.deep, deeps, in38, out38, hds_deep]
/-- a plan with good names -/
structure PlanG (H : Hp) (v : V) (b : Int) (ms : List Tr) : Prop where
  tv : TrV H v (.grp "w" b ms)
  ok : (Tr.grp "w" b ms).ok
  dp : (Tr.grp "w" b ms).deep ≤ 3
  nd : (Tr.grp "w" b ms).nms.Nodup
  nm : ∀ x ∈ (Tr.grp "w" b ms).nms, nameOk x
  sz : (Tr.grp "w" b ms).size ≤ 10
  nb : ("nobody" : Str) ∉ (Tr.grp "w" b ms).nms
def spPlan38 : Sp := fun vs H Q _ => ∃ (h : Addr) (C : Nat), vs = [.ref h] ∧ Bx H h C ∧ C ≤ 900000 ∧ ∀ (v : V) (b : Int) (ms : List Tr) (H' : Hp), Bx H' h (C + 10) → Kp h h H H' → PlanG H' v b ms → Q v H'
theorem plan_g {H : Hp} {v : V} {ns : List Str} (hns : ns ∈ [nsA, nsB]) {k w : Nat} (hk : k < 3) (hw : w < 5) {b0 b1 b2 b3 : Int} (h0 : 1 ≤ b0 ∧ b0 ≤ 3) (h1 : 1 ≤ b1 ∧ b1 ≤ 3) (h2 : 1 ≤ b2 ∧ b2 ≤ 3) (h3 : 1 ≤ b3 ∧ b3 ≤ 3) (tv : TrV H v (.grp "w" b0 (ms38 ns k b1 b2 b3 w))) : PlanG H v b0 (ms38 ns k b1 b2 b3 w) := by
  refine ⟨tv, ok38 ns ?_ k h0 h1 h2 h3 w, dp38 ns k b0 b1 b2 b3 w, by rw [nms38]; exact w38_nd ns hns w hw k hk, by rw [nms38]; exact w38_nm ns hns w hw k hk, ?_, by rw [nms38]; exact w38_nb ns hns w hw k hk⟩
  · rcases List.mem_cons.mp hns with rfl | z
    · simp [nsA]
    · rw [List.mem_singleton.mp z]
      simp [nsB]
  · rw [← nms_len, nms38]
    exact w38_sz ns hns w hw k hk
theorem trvs_hds {H : Hp} : ∀ xs : List Str, TrVs H (xs.map V.str) (hds xs)
  | [] => .nil
  | x :: xs => .cons (.hand x) (trvs_hds xs)
theorem ns7 {ns : List Str} (h : ns ∈ [nsA, nsB]) : ns.length = 7 := by
  rcases List.mem_cons.mp h with rfl | z
  · rfl
  · rw [List.mem_singleton.mp z]
    rfl
theorem at38 {ns : List Str} (h : ns.length = 7) {i : Nat} (hi : i < 7) : atI (ns.map V.str) (i : Int) = some (.str (n38 ns i)) := by
  unfold atI ixN
  rw [if_pos (by omega), if_pos (by rw [List.length_map]; omega)]
  have hl : i < ns.length := by omega
  simp [n38, List.getD_eq_getElem?_getD, hl]
/-- a tree that is written, its parts values -/
inductive MT where
  | h (te : TE) (x : Str)
  | v (te : TE) (u : V) (t : Tr)
  | g (nm : Str) (tb : TE) (b : Int) (ms : List MT)
mutual
def MT.e : MT → TE
  | .h te _ => te
  | .v te _ _ => te
  | .g nm tb _ ms => tTup (tCons (tC (.str nm)) (tCons tb (tCons (tTup (mtA ms)) tNil)))
def mtA : List MT → TA
  | [] => tNil
  | m :: ms => tCons m.e (mtA ms)
end
mutual
def MT.t : MT → Tr
  | .h _ x => .hand x
  | .v _ _ t => t
  | .g nm _ b ms => .grp nm b (mtT ms)
def mtT : List MT → List Tr
  | [] => []
  | m :: ms => m.t :: mtT ms
end
mutual
def MT.ok (σ : L2.St) (H : Hp) : MT → Prop
  | .h te x => Ev te σ H (.str x)
  | .v te u t => Ev te σ H u ∧ TrV H u t
  | .g _ tb b ms => Ev tb σ H (.int b) ∧ ms.length ≤ 100 ∧ mtOk σ H ms
def mtOk (σ : L2.St) (H : Hp) : List MT → Prop
  | [] => True
  | m :: ms => m.ok σ H ∧ mtOk σ H ms
end
mutual
theorem mt_new {σ : L2.St} {H0 : Hp} : ∀ (m : MT), m.ok σ H0 → ∀ {H : Hp} {Q : VK}, Ex H0 H → (∀ u H', Ex H H' → TrV H' u m.t → Q u H') → m.e σ H Q
  | .h te x, h, H, Q, e, q => h H e Q fun H' e' => q _ H' e' (.hand x)
  | .v te u t, h, H, Q, e, q => h.1 H e Q fun H' e' => q u H' e' (trv_tk (TK.ex (e.trans e')) _ _ h.2)
  | .g nm tb b ms, h, H, Q, e, q => h.1 H e _ fun H1 e1 => mts_new ms h.2.2 (e.trans e1) fun us H2 e2 tv ul => ⟨sz_of (by have := h.2.1; omega), fun p hp => ⟨(by show 3 ≤ sizeLine; decide), fun p2 hp2 => by
      have e3 := Ex.new (o := .tup us) hp
      have e4 := Ex.new (o := .tup [.str nm, .int b, .ref p]) hp2
      exact q _ _ (e1.trans (e2.trans (e3.trans e4))) (.grp upd_same (e4 _ _ upd_same) (trvs_tk (TK.ex (e3.trans e4)) _ _ tv))⟩⟩
theorem mts_new {σ : L2.St} {H0 : Hp} : ∀ (ms : List MT), mtOk σ H0 ms → ∀ {H : Hp} {Q : List V → Hp → Prop}, Ex H0 H → (∀ us H', Ex H H' → TrVs H' us (mtT ms) → us.length = ms.length → Q us H') → mtA ms σ H Q
  | [], _, H, Q, _, q => q [] H (Ex.refl H) .nil rfl
  | m :: ms, h, H, Q, e, q => mt_new m h.1 e fun u H1 e1 tv => mts_new ms h.2 (e.trans e1) fun us H2 e2 tvs ul => q _ H2 (e1.trans e2) (.cons (trv_tk (TK.ex e2) _ _ tv) tvs) (by rw [List.length_cons, List.length_cons, ul])
end
theorem e_mt {σ : L2.St} {E : TE} {H : Hp} {Q : VK} (m : MT) (e : E = m.e) (h : m.ok σ H) (q : ∀ u H', Ex H H' → TrV H' u m.t → Q u H') : E σ H Q := by
  rw [e]
  exact mt_new m h (Ex.refl H) q
theorem q_ifF {t : TT} {tu tz : TS} {D : Ends} {σ : L2.St} {H : Hp} (h : t σ H fun c H1 => if c = true then tu { D with nx := tz D } σ H1 else tz D σ H1) : tSeq (tIfS t tu tNext) tz D σ H := h
theorem slLK {X : Cx} {K : PySem.W.Frag} (h : X.K = K) : SlR X (rSlL K) := by subst h; exact sl_list
section
variable {P : Program} {w : World} {K : PySem.W.Frag} {mg : Str → Option Value} {base : Heap}
theorem ok__law_plan (T : Tp w K mg) : FnOk P w K mg base CX0 3 T.f__law_plan T.d__law_plan ["_law_box_here"] spPlan38 := by
  refine T.F__law_plan.ok sc__law_plan (fun vs H Q E h => ?_) (fun cdv A outer s H vs Q E hr h => ?_)
  · obtain ⟨h, C, rfl, _⟩ := h
    rfl
  obtain ⟨h, C, rfl, A0, hC, q⟩ := h
  refine ⟨_, (pss_cons (ps_set (i := 1) sc__law_plan.nd rfl (Or.inr rfl) (pe_call (ok__law_pick T) (hr.mono (by decide)) rfl T.m__law_pick T.F__law_pick.kp (b__law_pick T) .nil pass0 (pa_cons (pv 0) (pa_cons (pe_lst (pa_cons (pe_lst (pa_cons pe_str (pa_cons pe_str (pa_cons pe_str (pa_cons pe_str (pa_cons pe_str (pa_cons pe_str (pa_cons pe_str pa_nil (star1 rfl)) (star1 rfl)) (star1 rfl)) (star1 rfl)) (star1 rfl)) (star1 rfl)) (star1 rfl))) (pa_cons (pe_lst (pa_cons pe_str (pa_cons pe_str (pa_cons pe_str (pa_cons pe_str (pa_cons pe_str (pa_cons pe_str (pa_cons pe_str pa_nil (star1 rfl)) (star1 rfl)) (star1 rfl)) (star1 rfl)) (star1 rfl)) (star1 rfl)) (star1 rfl))) pa_nil (star1 rfl)) (star1 rfl))) pa_nil (star1 rfl)) (star1 rfl)) (by decide) (star1 rfl) (starAll rfl)))
  (pss_cons (ps_par rfl sc__law_plan.nd (i := 2) (j := 3) rfl rfl (by decide) rfl rfl (pa_cons (pe_lc (own := [("_law_at", 7)]) (g := gName 7) (tt := tYes) rfl sc__law_plan.nd (pi_range1 rfl T.z_range (pa_cons pe_int pa_nil (star1 rfl))) (blkOk_by (N := N__law_plan) (sc := defScope s__law_plan) (by decide +kernel)) (fun _ _ _ _ _ => (pg_name (i := 7) sc__law_plan.nd rfl (Or.inl rfl))) (fun _ _ _ _ _ => pts_nil) (fun _ _ _ _ _ => (pe_ix (ixLK (K := K) rfl) (pv 1) (pv 7) (fun _ _ => rfl)))) (pa_cons (pe_lc (own := [("_law_at", 7)]) (g := gName 7) (tt := tYes) rfl sc__law_plan.nd (pi_range1 rfl T.z_range (pa_cons pe_int pa_nil (star1 rfl))) (blkOk_by (N := N__law_plan) (sc := defScope s__law_plan) (by decide +kernel)) (fun _ _ _ _ _ => (pg_name (i := 7) sc__law_plan.nd rfl (Or.inl rfl))) (fun _ _ _ _ _ => pts_nil) (fun _ _ _ _ _ => (pe_op op_add pe_int (pe_call (ok__law_take T) (hr.mono (by decide)) rfl T.m__law_take T.F__law_take.kp (b__law_take T) .nil pass0 (pa_cons (pv 0) (pa_cons pe_int pa_nil (star1 rfl)) (star1 rfl)) (by decide) (star1 rfl) (starAll rfl))))) pa_nil (star1 rfl)) (star1 rfl)) (by rfl))
  (pss_cons (ps_set (i := 4) sc__law_plan.nd rfl (Or.inl rfl) (pe_call (ok__law_take T) (hr.mono (by decide)) rfl T.m__law_take T.F__law_take.kp (b__law_take T) .nil pass0 (pa_cons (pv 0) (pa_cons pe_int pa_nil (star1 rfl)) (star1 rfl)) (by decide) (star1 rfl) (starAll rfl)))
  (pss_cons (ps_if (pt_cmpR op_eq (pv 4) pe_int (nomark _)) (pss_one (ps_ret (pe_tup (pa_cons pe_str (pa_cons (pe_ix (ixLK (K := K) rfl) (pv 3) pe_int (fun _ _ => rfl)) (pa_cons (pe_callTy call_tuple_of rfl T.z_tuple (by decide +kernel) (pa_cons (pe_slice (slLK (K := K) rfl) (pv 2) po_none (po_some (pe_op op_add pe_int (pe_call (ok__law_take T) (hr.mono (by decide)) rfl T.m__law_take T.F__law_take.kp (b__law_take T) .nil pass0 (pa_cons (pv 0) (pa_cons pe_int pa_nil (star1 rfl)) (star1 rfl)) (by decide) (star1 rfl) (starAll rfl))))) pa_nil (star1 rfl)) (by decide) (by decide) (star1 rfl) (starAll rfl)) pa_nil (star1 rfl)) (star1 rfl)) (star1 rfl))))) pss_nil)
  (pss_cons (ps_set (i := 5) sc__law_plan.nd rfl (Or.inl rfl) (pe_tup (pa_cons pe_str (pa_cons (pe_ix (ixLK (K := K) rfl) (pv 3) pe_int (fun _ _ => rfl)) (pa_cons (pe_callTy call_tuple_of rfl T.z_tuple (by decide +kernel) (pa_cons (pe_slice (slLK (K := K) rfl) (pv 2) po_none (po_some (pe_op op_add pe_int (pe_call (ok__law_take T) (hr.mono (by decide)) rfl T.m__law_take T.F__law_take.kp (b__law_take T) .nil pass0 (pa_cons (pv 0) (pa_cons pe_int pa_nil (star1 rfl)) (star1 rfl)) (by decide) (star1 rfl) (starAll rfl))))) pa_nil (star1 rfl)) (by decide) (by decide) (star1 rfl) (starAll rfl)) pa_nil (star1 rfl)) (star1 rfl)) (star1 rfl))))
  (pss_cons (ps_if (pt_cmpR op_eq (pv 4) pe_int (nomark _)) (pss_one (ps_ret (pe_tup (pa_cons pe_str (pa_cons (pe_ix (ixLK (K := K) rfl) (pv 3) pe_int (fun _ _ => rfl)) (pa_cons (pe_tup (pa_cons (pe_ix (ixLK (K := K) rfl) (pv 2) pe_int (fun _ _ => rfl)) (pa_cons (pv 5) pa_nil (star1 rfl)) (star1 rfl))) pa_nil (star1 rfl)) (star1 rfl)) (star1 rfl))))) pss_nil)
  (pss_cons (ps_if (pt_cmpR op_eq (pv 4) pe_int (nomark _)) (pss_one (ps_ret (pe_tup (pa_cons pe_str (pa_cons (pe_ix (ixLK (K := K) rfl) (pv 3) pe_int (fun _ _ => rfl)) (pa_cons (pe_tup (pa_cons (pv 5) (pa_cons (pe_tup (pa_cons pe_str (pa_cons (pe_ix (ixLK (K := K) rfl) (pv 3) pe_int (fun _ _ => rfl)) (pa_cons (pe_tup (pa_cons (pe_ix (ixLK (K := K) rfl) (pv 2) pe_int (fun _ _ => rfl)) (pa_cons (pe_ix (ixLK (K := K) rfl) (pv 2) pe_int (fun _ _ => rfl)) pa_nil (star1 rfl)) (star1 rfl))) pa_nil (star1 rfl)) (star1 rfl)) (star1 rfl))) pa_nil (star1 rfl)) (star1 rfl))) pa_nil (star1 rfl)) (star1 rfl)) (star1 rfl))))) pss_nil)
  (pss_cons (ps_set (i := 6) sc__law_plan.nd rfl (Or.inl rfl) (pe_tup (pa_cons pe_str (pa_cons (pe_ix (ixLK (K := K) rfl) (pv 3) pe_int (fun _ _ => rfl)) (pa_cons (pe_tup (pa_cons (pv 5) (pa_cons (pe_ix (ixLK (K := K) rfl) (pv 2) pe_int (fun _ _ => rfl)) pa_nil (star1 rfl)) (star1 rfl))) pa_nil (star1 rfl)) (star1 rfl)) (star1 rfl))))
  (pss_cons (ps_if (pt_cmpR op_eq (pv 4) pe_int (nomark _)) (pss_one (ps_ret (pe_tup (pa_cons pe_str (pa_cons (pe_ix (ixLK (K := K) rfl) (pv 3) pe_int (fun _ _ => rfl)) (pa_cons (pe_tup (pa_cons (pv 6) (pa_cons (pe_ix (ixLK (K := K) rfl) (pv 2) pe_int (fun _ _ => rfl)) pa_nil (star1 rfl)) (star1 rfl))) pa_nil (star1 rfl)) (star1 rfl)) (star1 rfl))))) pss_nil)
  (pss_one (ps_ret (pe_tup (pa_cons pe_str (pa_cons (pe_ix (ixLK (K := K) rfl) (pv 3) pe_int (fun _ _ => rfl)) (pa_cons (pe_tup (pa_cons (pv 6) (pa_cons (pe_tup (pa_cons pe_str (pa_cons (pe_ix (ixLK (K := K) rfl) (pv 3) pe_int (fun _ _ => rfl)) (pa_cons (pe_tup (pa_cons (pe_ix (ixLK (K := K) rfl) (pv 2) pe_int (fun _ _ => rfl)) (pa_cons (pe_ix (ixLK (K := K) rfl) (pv 2) pe_int (fun _ _ => rfl)) pa_nil (star1 rfl)) (star1 rfl))) pa_nil (star1 rfl)) (star1 rfl)) (star1 rfl))) pa_nil (star1 rfl)) (star1 rfl))) pa_nil (star1 rfl)) (star1 rfl)) (star1 rfl)))))))))))))), ?_⟩
  -- the names
  refine q_asgP ?_
  refine ⟨_, rfl, (by show 7 ≤ sizeLine; decide), fun l1 hl1 => ⟨(by show 7 ≤ sizeLine; decide), fun l2 hl2 => ⟨(by show 2 ≤ sizeLine; decide), fun l hl => ?_⟩⟩⟩
  have e1 := Ex.new (o := .lst (nsA.map V.str)) hl1
  have e2 := Ex.new (o := .lst (nsB.map V.str)) hl2
  have e3 := Ex.new (o := .lst [.ref l1, .ref l2]) hl
  have g1 : upd H l1 (.lst (nsA.map V.str)) l1 = some (.lst (nsA.map V.str)) := upd_same
  have g2 : upd (upd H l1 (.lst (nsA.map V.str))) l2 (.lst (nsB.map V.str)) l2 = some (.lst (nsB.map V.str)) := upd_same
  have A3 := ((A0.ex e1).ex e2).ex e3
  have n1 := A0.fresh hl1
  have n2 := (A0.ex e1).fresh hl2
  refine ⟨h, l, [.ref l1, .ref l2], C, rfl, A3, by omega, upd_same, ((A0.ex e1).ex e2).fresh hl, by show 1 ≤ 2; decide, by show 2 ≤ 20000; decide, fun u H4 hu A4 k4 => ?_⟩
  have k04 : Kp h h H H4 := (Kp.ex (e1.trans (e2.trans e3))).trans k4
  obtain ⟨a, ns, rfl, hns, ha⟩ : ∃ a ns, u = .ref a ∧ ns ∈ [nsA, nsB] ∧ H4 a = some (.lst (ns.map V.str)) ∧ a ≠ h := by
    rcases List.mem_cons.mp hu with rfl | z
    · exact ⟨l1, nsA, rfl, by simp, k4 _ _ n1 n1 (e3 _ _ (e2 _ _ g1)), n1⟩
    · rw [List.mem_singleton.mp z]
      exact ⟨l2, nsB, rfl, by simp, k4 _ _ n2 n2 (e3 _ _ g2), n2⟩
  obtain ⟨ha, nah⟩ := ha
  have l7 := ns7 hns
  clear hu A3 k4
  -- all names, the bounds
  refine q_parP ?_
  refine ⟨7, rfl, by decide, by decide, fun D hD => ?_⟩
  have Dh := A4.fresh hD
  have Da : D ≠ a := fun z => by
    rw [z, ha] at hD
    cases hD
  refine lc_range (lo := 0) (n := (7 : Int).toNat) (fun i H' => Ex H4 H' ∧ H' D = some (.lst ((ns.take i).map V.str))) ⟨Ex.new hD, upd_same⟩ ?_ ?_
  · rintro i H5 hi ⟨e5, d5⟩
    have i7 : i < 7 := by simpa using hi
    refine ⟨rfl, tYesQ ?_⟩
    refine ⟨_, rfl, _, rfl, a, _, _, _, rfl, rfl, sq_of (e5 _ _ ha), by rw [Int.zero_add]; exact at38 l7 i7, ?_⟩
    refine ⟨_, d5, sz_lt (by rw [List.length_map, List.length_take]; omega), Ex.mut e5 hD, ?_⟩
    have hi' : i < ns.length := by omega
    rw [upd_same, List.take_succ_eq_append_getElem hi', List.map_append]
    simp [n38, List.getD_eq_getElem?_getD, hi']
  rintro H5 ⟨e5, d5⟩
  have d5 : H5 D = some (.lst (ns.map V.str)) := by
    have : (7 : Int).toNat = ns.length := by rw [l7]; rfl
    rw [this, List.take_length] at d5
    exact d5
  have A5 := A4.ex e5
  refine ⟨4, rfl, by decide, by decide, fun D2 hD2 => ?_⟩
  have D2h := A5.fresh hD2
  have D2D : D2 ≠ D := fun z => by
    rw [z, d5] at hD2
    cases hD2
  refine lc_range (lo := 0) (n := (4 : Int).toNat) (fun i H' => ∃ bs : List Int, H' D2 = some (.lst (bs.map V.int)) ∧ bs.length = i ∧ (∀ b ∈ bs, 1 ≤ b ∧ b ≤ 3) ∧ Bx H' h (C + 1 + i) ∧ ∀ c o, c ≠ h → H5 c = some o → H' c = some o) ⟨[], upd_same, rfl, (fun b hb => by cases hb), A5.new hD2, fun c o _ hc => (Ex.new hD2) _ _ hc⟩ ?_ ?_
  · rintro i H6 hi ⟨bs, d6, bl, bb, A6, k6⟩
    have i4 : i < 4 := by simpa using hi
    refine ⟨rfl, tYesQ ?_⟩
    refine take_at rfl A6 (by omega) (by decide) (by decide) fun r H7 r0 r1 A7 k7 => ⟨1, r, rfl, rfl, ?_⟩
    refine ⟨_, k7 _ _ D2h D2h d6, sz_lt (by rw [List.length_map]; omega), bs ++ [1 + r], ?_, by rw [List.length_append, bl]; rfl, ?_, ?_, ?_⟩
    · rw [upd_same, List.map_append]
      rfl
    · intro b hb
      rcases List.mem_append.mp hb with z | z
      · exact bb b z
      · rw [List.mem_singleton.mp z]
        omega
    · obtain ⟨x1, x2, x3, B⟩ := A7
      exact ⟨x1, x2, x3, by rw [upd_ne (Ne.symm D2h)]; exact B.hh, B.n0, B.m0, B.m1, B.c0, B.c1⟩
    · intro c o n hc
      have : c ≠ D2 := fun z => by rw [z, hD2] at hc; cases hc
      rw [upd_ne this]
      exact k7 _ _ n n (k6 _ _ n hc)
  rintro H6 ⟨bs, d6, bl, bb, A6, k6⟩
  have bl : bs.length = 4 := bl
  have A6 : Bx H6 h (C + 1 + 4) := A6
  obtain ⟨b0, b1, b2, b3, rfl⟩ : ∃ b0 b1 b2 b3, bs = [b0, b1, b2, b3] := by
    match bs, bl with
    | [b0, b1, b2, b3], _ => exact ⟨_, _, _, _, rfl⟩
  have h0 := bb b0 (by simp)
  have h1 := bb b1 (by simp)
  have h2 := bb b2 (by simp)
  have h3 := bb b3 (by simp)
  have d56 : H6 D = some (.lst (ns.map V.str)) := k6 _ _ Dh d5
  have k46 : ∀ c o, c ≠ h → H c = some o → H6 c = some o := fun c o n hc => k6 _ _ n (e5 _ _ (k04 _ _ n n hc))
  clear bb bl d5 k6 A5 e5 k04 A4 ha
  refine ⟨_, _, rfl, ?_⟩
  -- the way
  refine q_asgP ?_
  refine take_at rfl A6 (by omega) (by decide) (by decide) fun r H7 r0 r1 A7 k7 => ?_
  obtain ⟨w, rfl⟩ : ∃ w : Nat, r = (w : Int) := ⟨r.toNat, by omega⟩
  have w5 : w < 5 := by omega
  have d7 := k7 _ _ Dh Dh d56
  have b7 := k7 _ _ D2h D2h d6
  have fr7 : ∀ c o, c ≠ h → H c = some o → H7 c = some o := fun c o n hc => k7 _ _ n n (k46 _ _ n hc)
  refine q_ifF ?_
  have bnd : ∀ {H' : Hp} {σ : L2.St} {i : Nat} {b : Int}, σ[3]? = some (some (.ref D2)) → H' D2 = some (.lst (([b0, b1, b2, b3] : List Int).map V.int)) → ([b0, b1, b2, b3] : List Int)[i]? = some b → i < 4 → Ev (tOp (rIxL K) (tVar 3) (tC (.int (i : Int)))) σ H' (.int b) := fun {H' σ i b} h3 hd hb hi => ev_op (ev_var h3) ev_c (rv_ixL (sq_of hd) (by
    unfold atI ixN
    rw [if_pos (by omega), if_pos (by show (i : Int) < 4; omega)]
    show (([b0, b1, b2, b3] : List Int).map V.int)[(i : Int).toNat]? = _
    rw [List.getElem?_map, Int.toNat_natCast, hb]
    rfl))
  have one : ∀ {H' : Hp} {σ : L2.St} {i : Nat}, σ[2]? = some (some (.ref D)) → H' D = some (.lst (ns.map V.str)) → i < 7 → Ev (tOp (rIxL K) (tVar 2) (tC (.int (i : Int)))) σ H' (.str (n38 ns i)) := fun {H' σ i} h2 hd hi => ev_op (ev_var h2) ev_c (rv_ixL (sq_of hd) (at38 l7 hi))
  refine (et_test (ev_eq (ev_var rfl) ev_c rfl)) H7 (Ex.refl H7) _ fun H8 e8 => ?_
  by_cases w0 : w = 0
  · subst w0
    refine iteT' rfl ?_
    refine s_retP ?_
    refine bnd (i := 0) (b := b0) rfl (e8 _ _ b7) rfl (by decide) H8 (Ex.refl H8) _ fun H9 e9 => ?_
    refine ⟨_, rfl, ?_⟩
    refine take_at rfl ((A7.ex e8).ex e9) (by omega) (by decide) (by decide) fun k H10 k0 k1 A10 k10 => ⟨2, k, rfl, rfl, ?_⟩
    obtain ⟨kn, rfl⟩ : ∃ kn : Nat, k = (kn : Int) := ⟨k.toNat, by omega⟩
    have d10 := k10 _ _ Dh Dh (e9 _ _ (e8 _ _ d7))
    refine ⟨_, rfl, D, _, rfl, sq_of d10, fun p hp => ?_⟩
    have ec : cutV (ns.map V.str) none (some (2 + (kn : Int))) = (ns.take (kn + 2)).map V.str := by
      have : (2 + (kn : Int)) = ((kn + 2 : Nat) : Int) := by omega
      rw [this, cut_to (by rw [List.length_map]; omega), List.map_take]
    rw [ec]
    refine ⟨p, _, rfl, Or.inl ⟨sq_of upd_same, fun p2 hp2 => ⟨(by show 3 ≤ sizeLine; decide), fun p3 hp3 => ?_⟩⟩⟩
    have x1 := Ex.new (o := .lst ((ns.take (kn + 2)).map V.str)) hp
    have x2 := Ex.new (o := .tup ((ns.take (kn + 2)).map V.str)) hp2
    have x3 := Ex.new (o := .tup [.str "w", .int b0, .ref p2]) hp3
    have x13 := x1.trans (x2.trans x3)
    refine q _ b0 (ms38 ns kn b1 b2 b3 0) _ ((A10.ex x13).up (by omega)) (fun c o n _ hc => x13 _ _ (k10 _ _ n n (e9 _ _ (e8 _ _ (fr7 _ _ n hc))))) ?_
    refine plan_g hns (by omega) (by omega) h0 h1 h2 h3 ?_
    exact .grp upd_same (x3 _ _ upd_same) (trvs_hds _)
  refine iteF' (decide_eq_false fun z => w0 (by injection z; omega)) ?_
  -- the inner group
  refine q_asgP ?_
  refine bnd (i := 1) (b := b1) rfl (e8 _ _ b7) rfl (by decide) H8 (Ex.refl H8) _ fun H9 e9 => ?_
  refine ⟨_, rfl, ?_⟩
  refine take_at rfl ((A7.ex e8).ex e9) (by omega) (by decide) (by decide) fun k H10 k0 k1 A10 k10 => ⟨1, k, rfl, rfl, ?_⟩
  obtain ⟨kn, rfl⟩ : ∃ kn : Nat, k = (kn : Int) := ⟨k.toNat, by omega⟩
  have kn3 : kn < 3 := by omega
  have d10 := k10 _ _ Dh Dh (e9 _ _ (e8 _ _ d7))
  have b10 := k10 _ _ D2h D2h (e9 _ _ (e8 _ _ b7))
  refine ⟨_, rfl, D, _, rfl, sq_of d10, fun p hp => ?_⟩
  have ec : cutV (ns.map V.str) none (some (1 + (kn : Int))) = (ns.take (kn + 1)).map V.str := by
    have : (1 + (kn : Int)) = ((kn + 1 : Nat) : Int) := by omega
    rw [this, cut_to (by rw [List.length_map]; omega), List.map_take]
  rw [ec]
  refine ⟨p, _, rfl, Or.inl ⟨sq_of upd_same, fun p2 hp2 => ⟨(by show 3 ≤ sizeLine; decide), fun p3 hp3 => ?_⟩⟩⟩
  have x1 := Ex.new (o := .lst ((ns.take (kn + 1)).map V.str)) hp
  have x2 := Ex.new (o := .tup ((ns.take (kn + 1)).map V.str)) hp2
  have x3 := Ex.new (o := .tup [.str "p", .int b1, .ref p2]) hp3
  have x13 := x1.trans (x2.trans x3)
  have tvi : TrV (upd (upd (upd H10 p (.lst ((ns.take (kn + 1)).map V.str))) p2 (.tup ((ns.take (kn + 1)).map V.str))) p3 (.tup [.str "p", .int b1, .ref p2])) (.ref p3) (in38 ns kn b1) := .grp upd_same (x3 _ _ upd_same) (trvs_hds _)
  have A11 := A10.ex x13
  have d11 := x13 _ _ d10
  have b11 := x13 _ _ b10
  have fr11 : ∀ c o, c ≠ h → H c = some o → (upd (upd (upd H10 p (.lst ((ns.take (kn + 1)).map V.str))) p2 (.tup ((ns.take (kn + 1)).map V.str))) p3 (.tup [.str "p", .int b1, .ref p2])) c = some o := fun c o n hc => x13 _ _ (k10 _ _ n n (e9 _ _ (e8 _ _ (fr7 _ _ n hc))))
  generalize upd (upd (upd H10 p (.lst ((ns.take (kn + 1)).map V.str))) p2 (.tup ((ns.take (kn + 1)).map V.str))) p3 (.tup [.str "p", .int b1, .ref p2]) = H11 at tvi A11 d11 b11 fr11 ⊢
  have fin : ∀ (u : V) (H' : Hp), Ex H11 H' → TrV H' u (.grp "w" b0 (ms38 ns kn b1 b2 b3 w)) → Q u H' := fun u H' e tv => q u b0 _ H' ((A11.ex e).up (by omega)) (fun c o n _ hc => e _ _ (fr11 c o n hc)) (plan_g hns kn3 w5 h0 h1 h2 h3 tv)
  -- one beside it
  refine q_ifF ?_
  refine (et_test (ev_eq (ev_var rfl) ev_c rfl)) H11 (Ex.refl H11) _ fun H12 e12 => ?_
  by_cases w1 : w = 1
  · subst w1
    refine iteT' rfl ?_
    refine s_retP ?_
    refine e_mt (.g "w" (tOp (rIxL K) (tVar 3) (tC (.int 0))) b0 [.h (tOp (rIxL K) (tVar 2) (tC (.int 5))) (n38 ns 5), .v (tVar 5) (.ref p3) (in38 ns kn b1)]) rfl ⟨bnd (i := 0) rfl (e12 _ _ b11) rfl (by decide), by show 2 ≤ 100; decide, one (i := 5) rfl (e12 _ _ d11) (by decide), ⟨ev_var rfl, trv_tk (TK.ex e12) _ _ tvi⟩, trivial⟩ fun u H' e tv => fin u H' (e12.trans e) tv
  refine iteF' (decide_eq_false fun z => w1 (by injection z; omega)) ?_
  refine q_ifF ?_
  refine (et_test (ev_eq (ev_var rfl) ev_c rfl)) H12 (Ex.refl H12) _ fun H13 e13 => ?_
  have e1113 := e12.trans e13
  by_cases w2 : w = 2
  · subst w2
    refine iteT' rfl ?_
    refine s_retP ?_
    refine e_mt (.g "w" (tOp (rIxL K) (tVar 3) (tC (.int 0))) b0 [.v (tVar 5) (.ref p3) (in38 ns kn b1), .g "q" (tOp (rIxL K) (tVar 3) (tC (.int 2))) b2 [.h (tOp (rIxL K) (tVar 2) (tC (.int 3))) (n38 ns 3), .h (tOp (rIxL K) (tVar 2) (tC (.int 4))) (n38 ns 4)]]) rfl ⟨bnd (i := 0) rfl (e1113 _ _ b11) rfl (by decide), by show 2 ≤ 100; decide, ⟨ev_var rfl, trv_tk (TK.ex e1113) _ _ tvi⟩, ⟨bnd (i := 2) rfl (e1113 _ _ b11) rfl (by decide), by show 2 ≤ 100; decide, one (i := 3) rfl (e1113 _ _ d11) (by decide), one (i := 4) rfl (e1113 _ _ d11) (by decide), trivial⟩, trivial⟩ fun u H' e tv => fin u H' (e1113.trans e) tv
  refine iteF' (decide_eq_false fun z => w2 (by injection z; omega)) ?_
  refine q_asgP ?_
  refine e_mt (.g "q" (tOp (rIxL K) (tVar 3) (tC (.int 2))) b2 [.v (tVar 5) (.ref p3) (in38 ns kn b1), .h (tOp (rIxL K) (tVar 2) (tC (.int 3))) (n38 ns 3)]) rfl ⟨bnd (i := 2) rfl (e1113 _ _ b11) rfl (by decide), by show 2 ≤ 100; decide, ⟨ev_var rfl, trv_tk (TK.ex e1113) _ _ tvi⟩, one (i := 3) rfl (e1113 _ _ d11) (by decide), trivial⟩ fun uo H14 e14 tvo => ?_
  have tvo : TrV H14 uo (out38 ns kn b1 b2) := tvo
  have e1114 := e1113.trans e14
  refine q_ifF ?_
  refine (et_test (ev_eq (ev_var rfl) ev_c rfl)) H14 (Ex.refl H14) _ fun H15 e15 => ?_
  have e1115 := e1114.trans e15
  by_cases w3 : w = 3
  · subst w3
    refine iteT' rfl ?_
    refine s_retP ?_
    refine e_mt (.g "w" (tOp (rIxL K) (tVar 3) (tC (.int 0))) b0 [.v (tVar 6) uo (out38 ns kn b1 b2), .h (tOp (rIxL K) (tVar 2) (tC (.int 4))) (n38 ns 4)]) rfl ⟨bnd (i := 0) rfl (e1115 _ _ b11) rfl (by decide), by show 2 ≤ 100; decide, ⟨ev_var rfl, trv_tk (TK.ex e15) _ _ tvo⟩, one (i := 4) rfl (e1115 _ _ d11) (by decide), trivial⟩ fun u H' e tv => fin u H' (e1115.trans e) tv
  refine iteF' (decide_eq_false fun z => w3 (by injection z; omega)) ?_
  have w4 : w = 4 := by omega
  subst w4
  refine s_retP ?_
  refine e_mt (.g "w" (tOp (rIxL K) (tVar 3) (tC (.int 0))) b0 [.v (tVar 6) uo (out38 ns kn b1 b2), .g "r" (tOp (rIxL K) (tVar 3) (tC (.int 3))) b3 [.h (tOp (rIxL K) (tVar 2) (tC (.int 5))) (n38 ns 5), .h (tOp (rIxL K) (tVar 2) (tC (.int 6))) (n38 ns 6)]]) rfl ⟨bnd (i := 0) rfl (e1115 _ _ b11) rfl (by decide), by show 2 ≤ 100; decide, ⟨ev_var rfl, trv_tk (TK.ex e15) _ _ tvo⟩, ⟨bnd (i := 3) rfl (e1115 _ _ b11) rfl (by decide), by show 2 ≤ 100; decide, one (i := 5) rfl (e1115 _ _ d11) (by decide), one (i := 6) rfl (e1115 _ _ d11) (by decide), trivial⟩, trivial⟩ fun u H' e tv => fin u H' (e1115.trans e) tv
end
/-! ### the hands of a plan -/
mutual
def handsP : Tr → List Str
  | .hand n => [n]
  | .grp _ _ ms => handsPs ms
def handsPs : List Tr → List Str
  | [] => []
  | t :: ts => handsP t ++ handsPs ts
end
mutual
theorem told_handsP : ∀ (t : Tr) (p : List Str), ((t.told p).filter fun r => !r.2.1).map (·.1) = handsP t
  | .hand n, p => by simp [Tr.told, handsP]
  | .grp n b ms, p => by
    simp only [Tr.told, List.filter_cons, handsP]
    simpa using tolds_handsP ms (n :: p)
theorem tolds_handsP : ∀ (ts : List Tr) (p : List Str), ((tolds ts p).filter fun r => !r.2.1).map (·.1) = handsPs ts
  | [], p => by simp [tolds, handsPs]
  | t :: ts, p => by simp only [tolds, handsPs, List.filter_append, List.map_append, told_handsP t p, tolds_handsP ts p]
end
theorem handsOf_P (t : Tr) : handsOf t = handsP t := told_handsP t []
theorem handsPs_take : ∀ (ts : List Tr) (i : Nat) (t : Tr), ts[i]? = some t → handsPs (ts.take (i + 1)) = handsPs (ts.take i) ++ handsP t
  | [], _, _, h => by simp at h
  | u :: ts, 0, t, h => by
    simp only [List.getElem?_cons_zero, Option.some.injEq] at h
    subst h
    simp [handsPs]
  | u :: ts, i + 1, t, h => by
    have := handsPs_take ts i t (by simpa using h)
    simp only [List.take_succ_cons, handsPs, this, List.append_assoc]
mutual
theorem handsP_len : ∀ t : Tr, (handsP t).length ≤ t.size
  | .hand n => by simp [handsP, Tr.size]
  | .grp n b ms => by
    have := handsPs_len ms
    simp only [handsP, Tr.size]
    omega
theorem handsPs_len : ∀ ts : List Tr, (handsPs ts).length ≤ sizes ts
  | [] => by simp [handsPs, sizes]
  | t :: ts => by
    have := handsP_len t
    have := handsPs_len ts
    simp only [handsPs, sizes, List.length_append]
    omega
end
def spHn (d : Nat) : Sp := fun vs H Q _ => ∃ (v : V) (n : Str) (b : Int) (ms : List Tr), vs = [v] ∧ TrV H v (.grp n b ms) ∧ (Tr.grp n b ms).deep ≤ d ∧ (Tr.grp n b ms).size ≤ 1000 ∧ ∀ (r : Addr) (H' : Hp), Ex H H' → H r = none → H' r = some (.lst ((handsP (.grp n b ms)).map V.str)) → Q (.ref r) H'
section
variable {P : Program} {w : World} {K : PySem.W.Frag} {mg : Str → Option Value} {base : Heap}
theorem hn_step (T : Tp w K mg) {d : Nat} {spR : Sp} (ih : FnOk P w K mg base CX0 d T.f__law_in T.d__law_in ["_law_plan_here"] spR) (hR : ∀ k, d = k + 1 → spR = spHn k) : FnOk P w K mg base CX0 (d + 1) T.f__law_in T.d__law_in ["_law_plan_here"] (spHn d) := by
  refine T.F__law_in.ok sc__law_in (fun vs H Q E h => ?_) (fun cdv A outer s H vs Q E hr h => ?_)
  · obtain ⟨v, n, b, ms, rfl, _⟩ := h
    rfl
  obtain ⟨v, n, b, ms, rfl, tv, hdp, hsz, q⟩ := h
  refine ⟨_, (pss_cons (ps_set (i := 1) sc__law_in.nd rfl (Or.inl rfl) (pe_lst pa_nil))
  (pss_cons (ps_for PassesOwn.never rfl (piTK (K := K) rfl (pe_ix (ixTK (K := K) rfl) (pv 0) pe_int (fun _ _ => rfl))) (pg_name (i := 2) sc__law_in.nd rfl (Or.inl rfl)) (pss_one (ps_expr (pe_bm PySem.F.plainAttrs_list PySem.F.slot_list_extend PySem.F.type_list_extend mt_extend (pv 1) (pa_cons (pe_ifExp (pt_val (pe_callB (isiK (K := K) rfl) rfl T.z_isinstance (by decide +kernel) (pa_cons (pv 2) (pa_cons (pe_bltn (v := .ty "str") rfl T.z_str (by decide +kernel) rfl) pa_nil (star1 rfl)) (star1 rfl)) (by decide) (by decide) (star1 rfl) (starAll rfl))) (pe_lst (pa_cons (pv 2) pa_nil (star1 rfl))) (pe_call ih hr rfl T.m__law_in T.F__law_in.kp (b__law_in T) .nil pass0 (pa_cons (pv 2) pa_nil (star1 rfl)) (by decide) (star1 rfl) (starAll rfl))) pa_nil (star1 rfl))))))
  (pss_one (ps_ret (pv 1))))), ?_⟩
  cases tv with
  | @grp a m _ _ xs _ h1 h2 h3 =>
  refine q_asgP ?_
  refine ⟨(by show 0 ≤ sizeLine; decide), fun l hl => ?_⟩
  have e1 := Ex.new (o := .lst []) hl
  have l1 : upd H l (.lst []) l = some (.lst []) := upd_same
  change tSeq _ _ _ _ (upd H l (.lst []))
  generalize upd H l (.lst []) = H1 at e1 l1 ⊢
  refine q_forU ?_
  refine ⟨_, rfl, _, _, _, .ref m, rfl, rfl, st_of (e1 _ _ h1), rfl, m, rfl, ⟨xs, st_of (e1 _ _ h2)⟩, ?_⟩
  have xl := trvs_len h3
  have lH := hl
  refine for_tup (K := K) (D := ⟨_, _, fun _ _ => True, fun _ _ => True⟩) (a := m) (xs := xs) (fun i σ' H' => Ex H H' ∧ ∃ c2, σ' = [some (.ref a), some (.ref l), c2] ∧ H' l = some (.lst ((handsPs (ms.take i)).map V.str))) ⟨e1, _, rfl, by rw [l1]; simp [handsPs]⟩ (fun i σ' H' _ hP => st_of (hP.1 _ _ h2)) ?_ ?_
  · rintro i x σ' H2 hx ⟨e2, c2, rfl, hl2⟩
    obtain ⟨t, ht, tvx⟩ := trvs_get h3 hx
    have tk := handsPs_take ms i t ht
    have bd : (handsPs (ms.take (i + 1))).length ≤ 1000 := by
      have h4 := handsPs_len (ms.take (i + 1))
      have h5 := sizes_take ms (i + 1)
      simp only [Tr.size] at hsz
      omega
    rw [tk, List.length_append] at bd
    refine s_dropP ?_
    cases t with
    | hand y =>
      cases tvx
      refine ⟨_, rfl, Or.inl ⟨rfl, _, sq_of hl2⟩, _, rfl, _, _, _, _, true, rfl, .ty "str", .base (.str y), kit_ty (by decide +kernel : kitB "str" "str" = some true), _, rfl, iteT' rfl ?_⟩
      refine ⟨_, rfl, (by show 1 ≤ sizeLine; decide), fun b2 hb2 => ?_⟩
      have e3 := Ex.new (o := .lst [.str y]) hb2
      refine ⟨l, b2, _, [.str y], rfl, rfl, e3 _ _ hl2, upd_same, ?_, ?_⟩
      · exact sz_of (by simp only [List.length_map, List.length_cons, List.length_nil]; omega)
      exact ⟨Ex.mut (e2.trans e3) lH, _, rfl, by rw [upd_same, tk, List.map_append]; rfl⟩
    | grp n2 b2 ms2 =>
      obtain ⟨k, rfl⟩ : ∃ k, d = k + 1 := ⟨d - 1, by simp only [Tr.deep] at hdp; omega⟩
      have hR' := hR k rfl
      subst hR'
      have d2 : (Tr.grp n2 b2 ms2).deep ≤ k := by
        have := deeps_mem ht
        simp only [Tr.deep] at hdp this ⊢
        omega
      have s2 : (Tr.grp n2 b2 ms2).size ≤ 1000 := by
        have := sizes_mem ht
        simp only [Tr.size] at hsz this ⊢
        omega
      have tvx2 := trv_tk (TK.ex e2) _ _ tvx
      cases id tvx2 with
      | @grp a2 m2 _ _ xs2 _ z1 z2 z3 =>
      refine ⟨_, rfl, Or.inl ⟨rfl, _, sq_of hl2⟩, _, rfl, _, _, _, _, false, rfl, .ty "str", .base (.tup z1), kit_ty (by decide +kernel : kitB "tuple" "str" = some false), _, rfl, iteF' rfl ?_⟩
      refine ⟨_, rfl, _, n2, b2, ms2, rfl, tvx2, d2, s2, fun r H3 e3 hr3 h3' => ?_⟩
      refine ⟨l, r, _, _, rfl, rfl, e3 _ _ hl2, h3', ?_, ?_⟩
      · exact sz_of (by simp only [List.length_map]; omega)
      exact ⟨Ex.mut (e2.trans e3) lH, _, rfl, by rw [upd_same, tk, List.map_append]⟩
  · rintro σ' H2 ⟨e2, c2, rfl, hl2⟩
    rw [xl, List.take_length] at hl2
    exact ⟨_, rfl, q l H2 e2 lH hl2⟩
theorem hn_all (T : Tp w K mg) : ∀ d : Nat, FnOk P w K mg base CX0 (d + 1) T.f__law_in T.d__law_in ["_law_plan_here"] (spHn d)
  | 0 => hn_step T (spR := fun _ _ _ _ => False) ⟨fun _ _ _ _ h => h.elim, fun _ _ _ _ _ _ _ _ _ _ _ _ _ h => h.elim⟩ (fun k h => by cases h)
  | d + 1 => hn_step T (hn_all T d) (fun k h => by cases h; rfl)
theorem ok__law_in (T : Tp w K mg) : FnOk P w K mg base CX0 4 T.f__law_in T.d__law_in ["_law_plan_here"] (spHn 3) := hn_all T 3
end
/-! ### the same thing, kind by kind -/
mutual
def lensOk : PyData → Bool
  | .tuple ds => decide (ds.length ≤ 100000) && lensOks ds
  | _ => true
def lensOks : List PyData → Bool
  | [] => true
  | d :: ds => lensOk d && lensOks ds
end
theorem lensOks_at : ∀ {ds : List PyData} {i : Nat} {d : PyData}, lensOks ds = true → ds[i]? = some d → lensOk d = true
  | [], _, _, _, h => by simp at h
  | e :: ds, 0, d, k, h => by
    simp only [List.getElem?_cons_zero, Option.some.injEq] at h
    subst h
    have k : (lensOk e && lensOks ds) = true := k
    rw [Bool.and_eq_true] at k
    exact k.1
  | e :: ds, i + 1, d, k, h => by
    have k : (lensOk e && lensOks ds) = true := k
    rw [Bool.and_eq_true] at k
    exact lensOks_at k.2 (by simpa using h)
theorem onlys_at : ∀ {ds : List PyData} {i : Nat} {d : PyData}, tupOnlys ds = true → ds[i]? = some d → tupOnly d = true
  | [], _, _, _, h => by simp at h
  | e :: ds, 0, d, k, h => by
    simp only [List.getElem?_cons_zero, Option.some.injEq] at h
    subst h
    have k : (tupOnly e && tupOnlys ds) = true := k
    rw [Bool.and_eq_true] at k
    exact k.1
  | e :: ds, i + 1, d, k, h => by
    have k : (tupOnly e && tupOnlys ds) = true := k
    rw [Bool.and_eq_true] at k
    exact onlys_at k.2 (by simpa using h)
theorem depth_at : ∀ {ds : List PyData} {i : Nat} {d : PyData}, ds[i]? = some d → d.depth ≤ PyData.depthAll ds
  | [], _, _, h => by simp at h
  | e :: ds, 0, d, h => by
    simp only [List.getElem?_cons_zero, Option.some.injEq] at h
    subst h
    simp only [PyData.depthAll]
    omega
  | e :: ds, i + 1, d, h => by
    have := depth_at (ds := ds) (i := i) (d := d) (by simpa using h)
    simp only [PyData.depthAll]
    omega
theorem dya_at {K : PySem.W.Frag} {H : Hp} : ∀ {vs : List V} {ds : List PyData} {i : Nat} {v : V}, DyAll K H vs ds → vs[i]? = some v → ∃ d, ds[i]? = some d ∧ Dy K H v d
  | _, _, _, _, .nil, h => by simp at h
  | _, _, 0, _, .cons a t, h => by
    simp only [List.getElem?_cons_zero, Option.some.injEq] at h
    subst h
    exact ⟨_, rfl, a⟩
  | _, _, i + 1, v, .cons a t, h => by
    obtain ⟨d, h1, h2⟩ := dya_at (i := i) (v := v) t (by simpa using h)
    exact ⟨d, by simpa using h1, h2⟩
theorem walk_zipT {K : PySem.W.Frag} {a b : Addr} {xs ys : List V} {n : Nat} (hx : n = xs.length) (hy : n = ys.length) : Walk (RZ.ItzT K a b) n (fun H => SqT K H a xs ∧ SqT K H b ys) (YPair (fun i => xs[i]?) (fun i => ys[i]?)) := by
  refine ⟨fun i _ hi q => ?_, fun _ q => ⟨xs, ys, q.1, q.2, Or.inl (by omega)⟩, fun i H v H' _ q y => ?_⟩
  · have h1 : i < xs.length := by omega
    have h2 : i < ys.length := by omega
    exact ⟨xs, ys, xs[i], ys[i], q.1, q.2, by simp [h1], by simp [h2]⟩
  · obtain ⟨T, x, z, h1, h2, h3, h4, h5⟩ := y
    exact ⟨T, x, z, h1, h2, h3, h4 xs q.1, h5 ys q.2⟩
theorem nx_mk {f : L2.St → Hp → Prop} {D : Ends} {σ : L2.St} {H : Hp} (h : f σ H) : ({ D with nx := f } : Ends).nx σ H := h
/-! ### the same thing, as the law tells it -/
def spAlk (K : PySem.W.Frag) (d : Nat) : Sp := fun vs H Q _ => ∃ (u v : V) (e : PyData), vs = [u, v] ∧ Dy K H u e ∧ Dy K H v e ∧ tupOnly e = true ∧ lensOk e = true ∧ e.depth ≤ d ∧ ∀ H', Ex H H' → Q (.bl true) H'
section
variable {P : Program} {w : World} {K : PySem.W.Frag} {mg : Str → Option Value} {base : Heap}
theorem alk_step (T : Tp w K mg) {d : Nat} {spR : Sp} (ih : FnOk P w K mg base CX0 d T.f__law_alike T.d__law_alike ["_law_found", "_law_due"] spR) (hR : ∀ k, d = k + 1 → spR = spAlk K k) : FnOk P w K mg base CX0 (d + 1) T.f__law_alike T.d__law_alike ["_law_found", "_law_due"] (spAlk K d) := by
  refine T.F__law_alike.ok sc__law_alike (fun vs H Q E h => ?_) (fun cdv A outer s H vs Q E hr h => ?_)
  · obtain ⟨u, v, e, rfl, _⟩ := h
    rfl
  obtain ⟨u, v, e, rfl, du, dv, to, lo, hdp, q⟩ := h
  refine ⟨_, (pss_cons (ps_if (pt_val (pe_callB (isiK (K := K) rfl) rfl T.z_isinstance (by decide +kernel) (pa_cons (pv 1) (pa_cons (pe_bltn (v := .ty "tuple") rfl T.z_tuple (by decide +kernel) rfl) pa_nil (star1 rfl)) (star1 rfl)) (by decide) (by decide) (star1 rfl) (starAll rfl))) (pss_cons (ps_if (PW.pt (pw_or (pt_not (pt_val (pe_callB (isiK (K := K) rfl) rfl T.z_isinstance (by decide +kernel) (pa_cons (pv 0) (pa_cons (pe_bltn (v := .ty "tuple") rfl T.z_tuple (by decide +kernel) rfl) pa_nil (star1 rfl)) (star1 rfl)) (by decide) (by decide) (star1 rfl) (starAll rfl)))) (pw_or1 (pt_cmpR op_ne (pe_callB (lenK (K := K) rfl) rfl T.z_len PySem.boot_len (pa_cons (pv 0) pa_nil (star1 rfl)) (by decide) (by decide) (star1 rfl) (starAll rfl)) (pe_callB (lenK (K := K) rfl) rfl T.z_len PySem.boot_len (pa_cons (pv 1) pa_nil (star1 rfl)) (by decide) (by decide) (star1 rfl) (starAll rfl)) (nomark _))))) (pss_one (ps_ret pe_bl)) pss_nil)
  (pss_one (ps_ret (pe_callB (allK (K := K) rfl rfl) rfl T.z_all (by decide +kernel) (pa_cons (pe_lc (own := [("_law_one", 2), ("_law_other", 3)]) (g := gTup K 2 (gCons (gName 2) (gCons (gName 3) gNil))) (tt := tYes) rfl sc__law_alike.nd (RZ.pi_zipA rfl T.z_zip (pa_cons (pv 0) (pa_cons (pv 1) pa_nil (star1 rfl)) (star1 rfl))) (blkOk_by (N := N__law_alike) (sc := defScope s__law_alike) (by decide +kernel)) (fun _ _ _ _ _ => (pg_tup rfl (pgs_cons (pg_name (i := 2) sc__law_alike.nd rfl (Or.inl rfl)) (pgs_cons (pg_name (i := 3) sc__law_alike.nd rfl (Or.inl rfl)) pgs_nil)))) (fun _ _ _ _ _ => pts_nil) (fun _ _ _ _ _ => (pe_call ih hr rfl T.m__law_alike T.F__law_alike.kp (b__law_alike T) .nil pass0 (pa_cons (pv 2) (pa_cons (pv 3) pa_nil (star1 rfl)) (star1 rfl)) (by decide) (star1 rfl) (starAll rfl)))) pa_nil (star1 rfl)) (by decide) (by decide) (star1 rfl) (starAll rfl))))) pss_nil)
  (pss_cons (ps_if (pt_cmp (pc_isN (pv 1))) (pss_one (ps_ret (pe_cmp (pc_isN (pv 0))))) pss_nil)
  (pss_cons (ps_if (pt_val (pe_callB (isiK (K := K) rfl) rfl T.z_isinstance (by decide +kernel) (pa_cons (pv 1) (pa_cons (pe_bltn (v := .ty "bool") rfl T.z_bool (by decide +kernel) rfl) pa_nil (star1 rfl)) (star1 rfl)) (by decide) (by decide) (star1 rfl) (starAll rfl))) (pss_one (ps_ret (pe_and (pe_callB (isiK (K := K) rfl) rfl T.z_isinstance (by decide +kernel) (pa_cons (pv 0) (pa_cons (pe_bltn (v := .ty "bool") rfl T.z_bool (by decide +kernel) rfl) pa_nil (star1 rfl)) (star1 rfl)) (by decide) (by decide) (star1 rfl) (starAll rfl)) (pe_one (pe_cmpR op_eq (pv 0) (pv 1) (nomark _)))))) pss_nil)
  (pss_one (ps_ret (pe_and (pe_cmpR op_eq (pe_callB (isiK (K := K) rfl) rfl T.z_isinstance (by decide +kernel) (pa_cons (pv 0) (pa_cons (pe_bltn (v := .ty "str") rfl T.z_str (by decide +kernel) rfl) pa_nil (star1 rfl)) (star1 rfl)) (by decide) (by decide) (star1 rfl) (starAll rfl)) (pe_callB (isiK (K := K) rfl) rfl T.z_isinstance (by decide +kernel) (pa_cons (pv 1) (pa_cons (pe_bltn (v := .ty "str") rfl T.z_str (by decide +kernel) rfl) pa_nil (star1 rfl)) (star1 rfl)) (by decide) (by decide) (star1 rfl) (starAll rfl)) (nomark _)) (pe_and (pe_not (pe_callB (isiK (K := K) rfl) rfl T.z_isinstance (by decide +kernel) (pa_cons (pv 0) (pa_cons (pe_bltn (v := .ty "bool") rfl T.z_bool (by decide +kernel) rfl) pa_nil (star1 rfl)) (star1 rfl)) (by decide) (by decide) (star1 rfl) (starAll rfl))) (pe_one (pe_cmpR op_eq (pv 0) (pv 1) (nomark _)))))))))), ?_⟩
  have isV : ∀ {H' : Hp} {S : String} {b : Bool}, Ex H H' → kitB (tyN e) S = some b → Ev (tCB (rIsi K) (tCons (tVar 1) (tCons (tC (.ty S)) tNil))) [some u, some v, none, none] H' (.bl b) := fun {H' S b} ex k => ev_isi (ev_var rfl) (dp_mono ex (dy_dp _ _ to dv)) k
  have isU : ∀ {H' : Hp} {S : String} {b : Bool}, Ex H H' → kitB (tyN e) S = some b → Ev (tCB (rIsi K) (tCons (tVar 0) (tCons (tC (.ty S)) tNil))) [some u, some v, none, none] H' (.bl b) := fun {H' S b} ex k => ev_isi (ev_var rfl) (dp_mono ex (dy_dp _ _ to du)) k
  refine q_ifF ?_
  cases e with
  | list ds => cases to
  | dict ds => cases to
  | tuple ds =>
    refine (et_B (isV (b := true) (Ex.refl H) (by show kitB "tuple" "tuple" = some true; decide +kernel))) H (Ex.refl H) _ fun H1 e1 => iteT' rfl ?_
    have dua0 := du
    have dva0 := dv
    cases du with
    | tup ha dua =>
    cases dv with
    | tup hb dva =>
    rename_i a xs b ys
    have xl := dya_ln dua
    have yl := dya_ln dva
    have lo' : (decide (ds.length ≤ 100000) && lensOks ds) = true := lo
    rw [Bool.and_eq_true, decide_eq_true_eq] at lo'
    refine s_ifP ?_
    have ha1 := ex_t e1 ha
    have hb1 := ex_t e1 hb
    refine (et_is (b := false) (et_or (et_not (et_B (isU (b := true) e1 (by show kitB "tuple" "tuple" = some true; decide +kernel)))) (fun _ => et_test (ev_ne (ev_lenT (ev_var rfl) ha1) (ev_lenT (ev_var rfl) hb1) rfl))) (by rw [xl, yl]; simp)) H1 (Ex.refl H1) _ fun H2 e2 => iteF' rfl ?_
    have e02 := e1.trans e2
    refine nx_mk ?_
    refine s_retP ?_
    refine ⟨_, rfl, _, rfl, a, b, xs, ys, rfl, Or.inr ⟨ex_t e02 ha, ex_t e02 hb, fun D hD => ?_⟩⟩
    refine lc_it (walk_zipT (K := K) (a := a) (b := b) (xs := xs) (ys := ys) (n := ds.length) xl.symm yl.symm) (fun i H' => Ex H2 H' ∧ H' D = some (.lst ((List.replicate i true).map V.bl))) ⟨Ex.new hD, upd_same⟩ (fun i H' _ hP => ⟨ex_t (e02.trans hP.1) ha, ex_t (e02.trans hP.1) hb⟩) ?_ ?_
    · rintro i x H3 H4 hi ⟨e3, d3⟩ ⟨t, y, z, rfl, ht, rfl, hy, hz⟩
      have e4 := Ex.new (o := .tup [y, z]) ht
      obtain ⟨d1, hd1, dy1⟩ := dya_at dua hy
      obtain ⟨d2, hd2, dy2⟩ := dya_at dva hz
      have : d2 = d1 := by
        rw [hd1] at hd2
        exact (Option.some.inj hd2).symm
      subst this
      obtain ⟨k, rfl⟩ : ∃ k, d = k + 1 := ⟨d - 1, by simp only [PyData.depth] at hdp; omega⟩
      have hR' := hR k rfl
      subst hR'
      have e04 := e02.trans (e3.trans e4)
      refine ⟨t, _, rfl, st_of upd_same, rfl, _, _, rfl, _, _, rfl, rfl, ?_⟩
      refine ⟨rfl, tYesQ ?_⟩
      refine ⟨_, rfl, _, rfl, y, z, d2, rfl, dy_mono e04 dy1, dy_mono e04 dy2, onlys_at to hd1, lensOks_at lo'.2 hd1, ?_, fun H5 e5 => ?_⟩
      · have := depth_at hd1
        simp only [PyData.depth] at hdp
        omega
      refine ⟨_, e5 _ _ (e4 _ _ d3), sz_lt (by rw [List.length_map, List.length_replicate]; omega), Ex.mut (e3.trans (e4.trans e5)) hD, ?_⟩
      rw [upd_same, List.replicate_succ', List.map_append]
      rfl
    rintro H3 ⟨e3, d3⟩
    refine ⟨D, _, rfl, sq_of d3, ?_⟩
    have e : (List.replicate ds.length true).all id = true := by
      rw [List.all_eq_true]
      intro z hz
      rw [(List.mem_replicate.mp hz).2]
      rfl
    rw [e]
    exact q _ (e02.trans e3)
  | none =>
    cases du
    cases dv
    refine (et_B (isV (b := false) (Ex.refl H) (by decide +kernel))) H (Ex.refl H) _ fun H1 e1 => iteF' rfl ?_
    refine q_ifF ?_
    refine (et_is (b := true) (et_test (ev_isN (ev_var rfl))) rfl) H1 (Ex.refl H1) _ fun H2 e2 => iteT' rfl ?_
    refine s_retP ?_
    exact (ev_is (w := .bl true) (ev_isN (x := .non) (ev_var rfl)) rfl) H2 (Ex.refl H2) _ fun H3 e3 => q H3 (e1.trans (e2.trans e3))
  | bool c =>
    cases du
    cases dv
    refine (et_B (isV (b := false) (Ex.refl H) (by show kitB "bool" "tuple" = some false; decide +kernel))) H (Ex.refl H) _ fun H1 e1 => iteF' rfl ?_
    refine q_ifF ?_
    refine (et_is (b := false) (et_test (ev_isN (ev_var rfl))) rfl) H1 (Ex.refl H1) _ fun H2 e2 => iteF' rfl ?_
    refine q_ifF ?_
    have e02 := e1.trans e2
    refine (et_B (isV (b := true) e02 (by show kitB "bool" "bool" = some true; decide +kernel))) H2 (Ex.refl H2) _ fun H3 e3 => iteT' rfl ?_
    refine s_retP ?_
    have e03 := e02.trans e3
    refine (ev_is (ev_andV (isU (b := true) e03 (by show kitB "bool" "bool" = some true; decide +kernel)) (fun _ => ev_eq (ev_var rfl) (ev_var rfl) rfl)) (w := .bl true) (by simp)) H3 (Ex.refl H3) _ fun H4 e4 => q H4 (e03.trans e4)
  | int i =>
    cases du
    cases dv
    refine (et_B (isV (b := false) (Ex.refl H) (by show kitB "int" "tuple" = some false; decide +kernel))) H (Ex.refl H) _ fun H1 e1 => iteF' rfl ?_
    refine q_ifF ?_
    refine (et_is (b := false) (et_test (ev_isN (ev_var rfl))) rfl) H1 (Ex.refl H1) _ fun H2 e2 => iteF' rfl ?_
    refine q_ifF ?_
    have e02 := e1.trans e2
    refine (et_B (isV (b := false) e02 (by show kitB "int" "bool" = some false; decide +kernel))) H2 (Ex.refl H2) _ fun H3 e3 => iteF' rfl ?_
    refine s_retP ?_
    have e03 := e02.trans e3
    refine (ev_is (ev_andV (ev_eq (isU (b := false) e03 (by show kitB "int" "str" = some false; decide +kernel)) (isV (b := false) e03 (by show kitB "int" "str" = some false; decide +kernel)) rfl) (fun _ => ev_andV (ev_notV (isU (b := false) e03 (by show kitB "int" "bool" = some false; decide +kernel))) (fun _ => ev_eq (ev_var rfl) (ev_var rfl) rfl))) (w := .bl true) (by simp)) H3 (Ex.refl H3) _ fun H4 e4 => q H4 (e03.trans e4)
  | str z =>
    cases du
    cases dv
    refine (et_B (isV (b := false) (Ex.refl H) (by show kitB "str" "tuple" = some false; decide +kernel))) H (Ex.refl H) _ fun H1 e1 => iteF' rfl ?_
    refine q_ifF ?_
    refine (et_is (b := false) (et_test (ev_isN (ev_var rfl))) rfl) H1 (Ex.refl H1) _ fun H2 e2 => iteF' rfl ?_
    refine q_ifF ?_
    have e02 := e1.trans e2
    refine (et_B (isV (b := false) e02 (by show kitB "str" "bool" = some false; decide +kernel))) H2 (Ex.refl H2) _ fun H3 e3 => iteF' rfl ?_
    refine s_retP ?_
    have e03 := e02.trans e3
    refine (ev_is (ev_andV (ev_eq (isU (b := true) e03 (by show kitB "str" "str" = some true; decide +kernel)) (isV (b := true) e03 (by show kitB "str" "str" = some true; decide +kernel)) rfl) (fun _ => ev_andV (ev_notV (isU (b := false) e03 (by show kitB "str" "bool" = some false; decide +kernel))) (fun _ => ev_eq (ev_var rfl) (ev_var rfl) rfl))) (w := .bl true) (by simp)) H3 (Ex.refl H3) _ fun H4 e4 => q H4 (e03.trans e4)
theorem alk_all (T : Tp w K mg) : ∀ d : Nat, FnOk P w K mg base CX0 (d + 1) T.f__law_alike T.d__law_alike ["_law_found", "_law_due"] (spAlk K d)
  | 0 => alk_step T (spR := fun _ _ _ _ => False) ⟨fun _ _ _ _ h => h.elim, fun _ _ _ _ _ _ _ _ _ _ _ _ _ h => h.elim⟩ (fun k h => by cases h)
  | d + 1 => alk_step T (alk_all T d) (fun k h => by cases h; rfl)
theorem ok__law_alike (T : Tp w K mg) : FnOk P w K mg base CX0 5 T.f__law_alike T.d__law_alike ["_law_found", "_law_due"] (spAlk K 4) := alk_all T 4
end
theorem apt_step {K : PySem.W.Frag} {C : Addr} {H : Hp} {B B' : HoA} {s : Sta} {x : SH} (ho : HoAt K C H B s x) (sm : B.same B') (nw : H B'.hd = none ∧ H B'.gd = none ∧ B'.hd ≠ B'.gd) : Apt B' := by
  obtain ⟨_, _, s3, s4, s5, _, _⟩ := sm
  have go : ∀ {α : Type} {R : V → α → Prop} {d : Addr} {ys : List (Str × α)}, Dm R H d ys → B'.hd ≠ d := fun dm y => by
    obtain ⟨_, ee⟩ := dm.dk
    rw [← y, nw.1] at ee
    cases ee
  exact ⟨by rw [s3]; exact go ho.pa, by rw [s4]; exact go ho.bo, by rw [s5]; exact go ho.pr, nw.2.2⟩
/-! ### houses that step, each told by its state -/
theorem cons_raw {te : TE} {ta : TA} {σ : L2.St} {H : Hp} {Q : List V → Hp → Prop} (h : te σ H fun v H1 => ta σ H1 fun vs H2 => Q (v :: vs) H2) : tCons te ta σ H Q := h
theorem cb_raw {r : List V → Hp → VK → Prop} {ta : TA} {σ : L2.St} {H : Hp} {Q : VK} (h : ta σ H fun xs H1 => r xs H1 Q) : tCB r ta σ H Q := h
theorem call_raw {sp : Sp} {dvs : List V} {E : XK} {ta : TA} {σ : L2.St} {H : Hp} {Q : VK} (h : ta σ H fun vs H1 => sp (vs ++ dvs) H1 Q E) : tCall sp dvs E ta σ H Q := h
def HAt (K : PySem.W.Frag) (C : Addr) (H : Hp) (p : Addr) (v : V) (n : Str) (b : Int) (ms : List Tr) (bk : Addr) (ds : List PyData) (x : SH) (N : Nat) : Prop := ∃ B : HoA, B.p = p ∧ B.pv = v ∧ Hse K C H B n b ms bk ds x N
section
variable {K : PySem.W.Frag} {C CD : Addr} {H H' : Hp} {p p2 : Addr} {v : V} {n : Str} {b : Int} {ms : List Tr} {bk bk2 : Addr} {ds ds2 : List PyData} {x : SH} {N M : Nat} {σ : L2.St} {E : XK} {Q : VK} {i j : Nat}
theorem HAt.ob (f : HAt K C H p v n b ms bk ds x N) : ∃ d fs, H p = some (.ins C d fs) := by
  obtain ⟨B, h1, _, h2⟩ := f
  exact ⟨_, _, by rw [← h1]; exact h2.ho.ob⟩
theorem HAt.io (f : HAt K C H p v n b ms bk ds x N) : IniOk K H v n b ms bk ds := by
  obtain ⟨B, _, h1, h2⟩ := f
  rw [← h1]
  exact h2.io
theorem HAt.gd (f : HAt K C H p v n b ms bk ds x N) (g : Gd H H') (ob : ∀ o, H p = some o → H' p = some o) : HAt K C H' p v n b ms bk ds x N := by
  obtain ⟨B, h1, h2, h3⟩ := f
  exact ⟨B, h1, h2, h3.gd g fun o z => by rw [h1] at z ⊢; exact ob o z⟩
theorem HAt.ex (f : HAt K C H p v n b ms bk ds x N) (e : Ex H H') : HAt K C H' p v n b ms bk ds x N := f.gd (Gd.ex e) fun _ z => e _ _ z
theorem HAt.nls (f : HAt K C H p v n b ms bk ds x N) {l : Addr} {xs : List V} (hl : H l = some (.lst xs)) : p ≠ l := fun z => by
  obtain ⟨_, _, y⟩ := f.ob
  rw [z, hl] at y
  cases y
theorem HAt.lst (f : HAt K C H p v n b ms bk ds x N) {l : Addr} {xs : List V} {o : HO} (hl : H l = some (.lst xs)) : HAt K C (upd H l o) p v n b ms bk ds x N := f.gd (Gd.lst hl) fun u z => by rw [upd_ne (f.nls hl)]; exact z
theorem HAt.new (f : HAt K C H p v n b ms bk ds x N) (hq : H p2 = none) : p ≠ p2 := fun z => by
  obtain ⟨_, _, y⟩ := f.ob
  rw [z, hq] at y
  cases y
theorem HAt.nbx (f : HAt K C H p v n b ms bk ds x N) {h : Addr} {Ct : Nat} (A : Bx H h Ct) : p ≠ h := fun z => by
  obtain ⟨_, _, y⟩ := f.ob
  obtain ⟨_, _, _, A⟩ := A
  rw [z, A.hh] at y
  cases y
theorem HAt.bx (f : HAt K C H p v n b ms bk ds x N) {h : Addr} {Ct : Nat} (A : Bx H h Ct) (k : Kp h h H H') : HAt K C H' p v n b ms bk ds x N := f.gd (Gd.bx A k) fun o z => k _ _ (f.nbx A) (f.nbx A) z
theorem hat_sp {m : Str} (f : HAt K C H p v n b ms bk ds x N) (hm : m ∈ handsOf (.grp n b ms)) (hN : N ≤ 1000)
    (q : ∀ u H', HAt K C H' p v n b ms bk ds (stepP (staOf (.grp n b ms) (bookOf ds)) x m).1 (N + 1) → (∀ c o, c ≠ p → H c = some o → H' c = some o) → Gd H H' → EvsV K H' u (stepP (staOf (.grp n b ms) (bookOf ds)) x m).2 → (∀ e ∈ (stepP (staOf (.grp n b ms) (bookOf ds)) x m).2, EvZ e) → (stepP (staOf (.grp n b ms) (bookOf ds)) x m).2.length ≤ 90000 → Q u H') : spStep K CD C [.ref p, .str m] H Q E := by
  obtain ⟨B, rfl, rfl, hs1⟩ := f
  obtain ⟨r, h1, h2, h3, h4, nxt⟩ := hs1.next hm hN
  refine ⟨B, _, x, m, r, rfl, hs1.ho, h1, h2, h3, fun B2 u H2 sm ho2 k2 evs2 nw => ?_⟩
  exact q u H2 ⟨B2, sm.1, sm.2.2.2.2.2.1, nxt sm ho2 k2 (apt_step hs1.ho sm nw)⟩ (fun c o ne h => k2 _ _ ne ne h) (Gd.ins hs1.ho.ob k2) evs2 h4 h3
theorem hat_rec {te : TE} {ta : TA} (f : HAt K C H p v n b ms bk ds x N) (he : Ev te σ H (.ref p)) (h : ∀ H', Ex H H' → ta σ H' fun vs H2 => spStep K CD C (.ref p :: (vs ++ [])) H2 Q E) : tMeth C (Str.ofString "step") (spStep K CD C) [] E te ta σ H Q := by
  obtain ⟨B, rfl, rfl, hs⟩ := f
  refine he H (Ex.refl H) _ fun H0 e0 => ?_
  exact ⟨B.p, B.dx, B.fields, rfl, (hs.ex e0).ho.ob, rfl, h H0 e0⟩
/-- asked -/
theorem hat_hand {m : Str} {r : HR} {te tm : TE} (f : HAt K C H p v n b ms bk ds x N) (hr : getN x.hs m = some r) (hσ : Ev te σ H (.ref p)) (ht : ∀ H1, Ex H H1 → Ev tm σ H1 (.str m)) (q : ∀ u H', Ex H H' → HV K H' u r → Q u H') : tMeth C (Str.ofString "hand") (spHandT K C) [] E te (tCons tm tNil) σ H Q := by
  obtain ⟨B, rfl, rfl, hs⟩ := f
  refine hσ H (Ex.refl H) _ fun H0 e0 => ?_
  refine ⟨B.p, B.dx, B.fields, rfl, (hs.ex e0).ho.ob, rfl, ?_⟩
  refine ht H0 e0 H0 (Ex.refl H0) _ fun H1 e1 => ?_
  exact ⟨B, _, x, m, r, rfl, (hs.ex (e0.trans e1)).ho, hr, fun u H' e2 hv => q u H' ((e0.trans e1).trans e2) hv⟩
theorem HAt.ndh (f : HAt K C H p v n b ms bk ds x N) : (x.hs.map (·.1)).Nodup := by
  obtain ⟨B, rfl, rfl, hs⟩ := f
  rw [show x.hs.map (·.1) = _ from hs.wf.ks]
  exact (List.nodup_append.mp (names_nodup hs.io.nd)).1
theorem HAt.wf (f : HAt K C H p v n b ms bk ds x N) : WF (staOf (.grp n b ms) (bookOf ds)) (handsOf (.grp n b ms)) (groupsOf (.grp n b ms)) n x N := by
  obtain ⟨B, rfl, rfl, hs⟩ := f
  exact hs.wf
theorem HAt.so (f : HAt K C H p v n b ms bk ds x N) : SOk (staOf (.grp n b ms) (bookOf ds)) (handsOf (.grp n b ms)) (groupsOf (.grp n b ms)) n := io_sok f.io
theorem hat_within {te : TE} (f : HAt K C H p v n b ms bk ds x N) (hσ : Ev te σ H (.ref p)) (q : ∀ H', Ex H H' → Q (optS (inNow x.hs)) H') : tMeth C (Str.ofString "within") (spWithin K C) [] E te tNil σ H Q := by
  have nd := f.ndh
  obtain ⟨B, rfl, rfl, hs⟩ := f
  refine hσ H (Ex.refl H) _ fun H0 e0 => ?_
  exact ⟨B.p, B.dx, B.fields, rfl, (hs.ex e0).ho.ob, rfl, B, _, x, rfl, (hs.ex e0).ho, nd, fun H' e2 => q H' (e0.trans e2)⟩
end
/-! ### houses that step: twins -/
section
variable {K : PySem.W.Frag} {C CD : Addr} {H H' : Hp} {p p2 : Addr} {v : V} {n : Str} {b : Int} {ms : List Tr} {bk bk2 : Addr} {ds ds2 : List PyData} {x : SH} {N M : Nat} {σ : L2.St} {E : XK} {Q : VK} {i j : Nat}
/-- a twin -/
theorem hat_twin (f : HAt K C H p v n b ms bk ds x N) (hσ : Ev (tVar i) σ H (.ref p)) (q : ∀ p2 H', HAt K C H' p2 v n b ms bk ds x N → HAt K C H' p v n b ms bk ds x N → Ex H H' → H p2 = none → Q (.ref p2) H') : tMeth C (Str.ofString "twin") (spTwin K C) [] E (tVar i) tNil σ H Q := by
  obtain ⟨B, rfl, rfl, hs⟩ := f
  refine hσ H (Ex.refl H) _ fun H0 e0 => ?_
  have hs0 := hs.ex e0
  refine ⟨B.p, B.dx, B.fields, rfl, hs0.ho.ob, rfl, B, x, n, b, ms, bk, ds, rfl, hs0.ho, hs0.bv, hs0.io, fun B9 H9 e9 np9 pv9 bv9 ho9 ap9 => ?_⟩
  have hs9 : Hse K C H9 B9 n b ms bk ds x N := ⟨ho9, bv9.trans hs0.bv, by rw [pv9]; exact hs0.io.ex e9, hs0.wf, hs0.dz, ap9⟩
  exact q B9.p H9 ⟨B9, rfl, pv9, hs9⟩ ⟨B, rfl, rfl, hs0.ex e9⟩ (e0.trans e9) (fresh_back e0 np9)
end
/-! ### what is shown of a house's hands and groups -/
structure HzOk (n : Str) (r : HR) : Prop where
  nm : n.length ≤ 8
  ro : r.row.natAbs ≤ 4000000000
  la : r.last.natAbs ≤ 4000000000
  lo : ∀ l, r.looks = some l → l.natAbs ≤ 4000000000
structure GzOk (n : Str) (g : GR) : Prop where
  nm : n.length ≤ 8
  co : g.count.natAbs ≤ 4000000000
  ho : ∀ m, g.holder = some m → m.length ≤ 8
  pl : ∀ p ∈ g.places, p.1.length ≤ 8
  ln : g.places.length ≤ 500
structure XOk (x : SH) : Prop where
  h : ∀ y ∈ x.hs, nameOk y.1 ∧ HzOk y.1 y.2
  g : ∀ y ∈ x.gs, nameOk y.1 ∧ GzOk y.1 y.2 ∧ (∀ m, y.2.holder = some m → nameOk m) ∧ ∀ p ∈ y.2.places, nameOk p.1
  nh : (x.hs.map (·.1)).Nodup
  ng : (x.gs.map (·.1)).Nodup
  ln : x.hs.length + x.gs.length ≤ 64
section
variable {n : Str} {b : Int} {ms : List Tr} {bk : List (Str × List Row)} {x : SH} {N L M : Nat}
theorem xok_of (so : SOk (staOf (.grp n b ms) bk) (handsOf (.grp n b ms)) (groupsOf (.grp n b ms)) n) (f : WF (staOf (.grp n b ms) bk) (handsOf (.grp n b ms)) (groupsOf (.grp n b ms)) n x N) (z : DZ nameOk L M x.hs x.gs) (hN : N ≤ 500) (hM : M ≤ 1000) (hL : L ≤ 1000000000)
    (nd : (Tr.grp n b ms).nms.Nodup) (nm : ∀ y ∈ (Tr.grp n b ms).nms, nameOk y) (sz : (Tr.grp n b ms).size ≤ 64) : XOk x := by
  have nds := List.nodup_append.mp (names_nodup nd)
  have nh : (x.hs.map (·.1)).Nodup := by rw [f.ks]; exact nds.1
  have ng : (x.gs.map (·.1)).Nodup := by rw [f.gs]; exact nds.2.1
  refine ⟨fun y hy => ?_, fun y hy => ?_, nh, ng, ?_⟩
  · obtain ⟨m, r⟩ := y
    have hg := getN_mem nh hy
    have hin := some_key f.ks hg
    have hm := nm m (hands_in _ m hin)
    obtain ⟨rows, hp, hl, _⟩ := so.pr m hin
    have ri := f.ri m r rows hg hp
    have hz := z.1 m r hg
    have la := hz.la
    refine ⟨hm, hm.2.1, ?_, ?_, fun l el => ?_⟩
    · show r.row.natAbs ≤ _
      omega
    · show r.last.natAbs ≤ _
      omega
    · have h1 := ri.2.2.2 l el
      have h2 := hz.lo l el
      omega
  · obtain ⟨m, g⟩ := y
    have hg := getN_mem ng hy
    have hin := some_key f.gs hg
    have hm := nm m (groups_in _ m hin)
    have hz := z.2 m g hg
    have co := hz.co
    refine ⟨hm, ⟨hm.2.1, ?_, fun m' e => (hz.ho m' e).2.1, fun p hp => (hz.pl p hp).2.1, Nat.le_trans (f.ln m g hg) hN⟩, hz.ho, hz.pl⟩
    show g.count.natAbs ≤ _
    omega
  · have h1 := congrArg List.length f.ks
    have h2 := congrArg List.length f.gs
    rw [List.length_map] at h1 h2
    have h3 := names_len (.grp n b ms)
    rw [List.length_append] at h3
    omega
end
theorem HAt.xok {K : PySem.W.Frag} {C : Addr} {H : Hp} {p : Addr} {v : V} {n : Str} {b : Int} {ms : List Tr} {bk : Addr} {ds : List PyData} {x : SH} {N : Nat} (f : HAt K C H p v n b ms bk ds x N) (hN : N ≤ 500) : XOk x := by
  obtain ⟨B, rfl, rfl, hs⟩ := f
  exact xok_of (io_sok hs.io) hs.wf hs.dz hN (by omega) (by decide) hs.io.nd hs.io.nm (Nat.le_of_lt hs.io.sz)
/-! ### why a step idles, told plainly -/
def standing (ps : List (Str × Bool)) : List Str := (ps.filter (·.2)).map (·.1)
def rowX (x : SH) (g : Str) (put : Option Str) : List Str := (match getN x.gs g with | some r => standing r.places | none => []) ++ put.toList
def looseX (x : SH) (m : Str) : Bool := (draftOf x).loose m
def tieA (s : Sta) (x : SH) : List Str → Option Str → Bool
  | [], _ => false
  | g :: p, put => match rowX x g put with
    | [] => tieA s x p none
    | m :: _ => if looseX x m then true else if p.isEmpty || isBelow s (draftOf x) g then false else tieA s x p (some g)
def tieL (x : SH) : Str → List Str → Bool
  | _, [] => false
  | m, g :: p => match getN x.gs g with
    | none => false
    | some r => if r.holder ≠ some m then false else match standing r.places with
      | [] => tieL x g p
      | f :: _ => looseX x f
theorem stand_drop : ∀ ps : List (Str × Bool), standing ps = match ps.dropWhile (fun p => !p.2) with | [] => [] | q :: t => q.1 :: standing t
  | [] => rfl
  | (a, true) :: ps => by simp [standing]
  | (a, false) :: ps => by
    have := stand_drop ps
    simpa [standing] using this
theorem stand_app (ps qs : List (Str × Bool)) : standing (ps ++ qs) = standing ps ++ standing qs := by simp [standing]
theorem stand_put (put : Option Str) : standing (put.toList.map fun m => (m, true)) = put.toList := by cases put <;> rfl
theorem loose_hs {d d' : DS} (h : d'.hs = d.hs) (m : Str) : d'.loose m = d.loose m := by unfold DS.loose; rw [h]
/-- letting go: whether it comes to a loose one -/
theorem letL_tie (s : Sta) (x : SH) : ∀ (p : List Str) (d : DS) (put : Option Str), p.Nodup → (∀ m, d.loose m = looseX x m) → (∀ g ∈ p, ∃ r, getN x.gs g = some r) → (∀ g ∈ p.drop 1, getN d.gs g = getN x.gs g) → (∀ g q, p = g :: q → ∀ r, getN x.gs g = some r → getN d.gs g = some { r with places := r.places ++ put.toList.map fun m => (m, true) }) → (letGoL s d p).2 = !tieA s x p put
  | [], d, put, _, _, _, _, _ => rfl
  | g :: p, d, put, nd, hl, hx, ht, hg => by
    obtain ⟨r, hr⟩ := hx g List.mem_cons_self
    have hd := hg g p rfl r hr
    obtain ⟨ng, nd'⟩ := List.nodup_cons.mp nd
    have row : rowX x g put = standing (r.places ++ put.toList.map fun m => (m, true)) := by
      unfold rowX
      rw [hr, stand_app, stand_put]
    unfold letGoL tieA
    rw [row, stand_drop]
    have pe : passLeft d g = (match (r.places ++ put.toList.map fun m => (m, true)).dropWhile (fun p => !p.2) with
      | [] => (({ d with gs := setN d.gs g { r with places := [] }, told := d.told ++ ((r.places ++ put.toList.map fun m => (m, true)).takeWhile fun p => !p.2).map fun p => e3 "passed" p.1 g } : DS), none)
      | q :: t => ({ ({ d with gs := setN d.gs g { r with places := q :: t }, told := d.told ++ ((r.places ++ put.toList.map fun m => (m, true)).takeWhile fun p => !p.2).map fun p => e3 "passed" p.1 g } : DS) with firsts := d.firsts ++ [q.1] }, some q.1)) := by
      unfold passLeft
      rw [hd]
      dsimp only
      cases (r.places ++ put.toList.map fun m => (m, true)).dropWhile (fun p => !p.2) <;> rfl
    rw [pe]
    cases hdw : (r.places ++ put.toList.map fun m => (m, true)).dropWhile (fun p => !p.2) with
    | nil =>
      dsimp only
      refine letL_tie s x p _ none nd' (fun m => (loose_hs rfl m).trans (hl m)) (fun g' h' => hx g' (List.mem_cons_of_mem _ h')) (fun g' h' => ?_) (fun g' q e r' hr' => ?_)
      · have h2 : g' ∈ p := (List.drop_sublist 1 p).mem h'
        have ne : g' ≠ g := fun z => ng (z ▸ h2)
        show getN (setN (setN d.gs g _) g _) g' = _
        rw [getN_other ne, getN_other ne]
        exact ht g' h2
      · subst e
        have ne : g' ≠ g := fun z => ng (z ▸ List.mem_cons_self)
        show getN (setN (setN d.gs g _) g _) g' = _
        rw [getN_other ne, getN_other ne, ht g' List.mem_cons_self, hr']
        simp
    | cons q t =>
      dsimp only
      have e1 : ∀ D1 : DS, D1.hs = d.hs → D1.loose q.1 = looseX x q.1 := fun D1 h => (loose_hs h _).trans (hl _)
      rw [e1]
      rotate_left
      · rfl
      cases hlo : looseX x q.1 with
      | true => rfl
      | false =>
        have cb : isBelow s { ({ d with gs := setN d.gs g { r with places := q :: t }, told := d.told ++ ((r.places ++ put.toList.map fun m => (m, true)).takeWhile fun p => !p.2).map fun p => e3 "passed" p.1 g } : DS) with firsts := d.firsts ++ [q.1] } g = isBelow s (draftOf x) g := by
          unfold isBelow countOf
          rw [show getN (setN d.gs g { r with places := q :: t }) g = some { r with places := q :: t } from getN_same hd, show getN (draftOf x).gs g = some r from hr]
        rw [cb]
        simp only [Bool.false_eq_true, if_false]
        cases hc : (p.isEmpty || isBelow s (draftOf x) g) with
        | true => rfl
        | false =>
          simp only [Bool.false_eq_true, if_false]
          cases p with
          | nil => simp at hc
          | cons a p =>
          have na : a ≠ g := fun z => ng (z ▸ List.mem_cons_self)
          have hh : ∀ d1 : DS, (handOver d1 g a).hs = d1.hs := fun d1 => by
            unfold handOver addPlace handOn
            split <;> (try split) <;> (try split) <;> rfl
          have ga : getN (setN d.gs g { r with places := q :: t }) g = some { r with places := q :: t } := getN_same hd
          obtain ⟨ra, hra⟩ := hx a (List.mem_cons_of_mem _ List.mem_cons_self)
          have da : getN d.gs a = some ra := by rw [ht a List.mem_cons_self, hra]
          have eo : ∀ dd : DS, dd.gs = setN d.gs g { r with places := q :: t } → (handOver dd g a).gs = setN (setN dd.gs g ⟨some q.1, 0, t⟩) a { ra with places := ra.places ++ [(g, true)] } := fun dd e => by
            unfold handOver addPlace handOn
            rw [e, ga]
            dsimp only
            show (match getN (setN dd.gs g ⟨some q.1, 0, t⟩) a with | some r => _ | none => _ : DS).gs = _
            rw [e, getN_other na, getN_other na, da]
            show setN (setN dd.gs g ⟨some q.1, 0, t⟩) a { ra with places := ra.places ++ [(g, true)] } = _
            rw [e]
          refine letL_tie s x (a :: p) _ (some g) nd' (fun m => ?_) (fun g' h' => hx g' (List.mem_cons_of_mem _ h')) (fun g' h' => ?_) (fun g' q' e r' hr' => ?_)
          · show (handOver _ g a).loose m = _
            rw [loose_hs (hh _) m]
            exact hl m
          · have h2 : g' ∈ p := h'
            have ne : g' ≠ g := fun z => ng (z ▸ List.mem_cons_of_mem _ h2)
            have ne2 : g' ≠ a := fun z => (List.nodup_cons.mp nd').1 (z ▸ h2)
            show getN (handOver _ g a).gs g' = _
            rw [eo _ rfl, getN_other ne2, getN_other ne, getN_other ne]
            exact ht g' (List.mem_cons_of_mem _ h2)
          · cases e
            rw [hra] at hr'
            cases hr'
            show getN (handOver _ g a).gs a = _
            rw [eo _ rfl]
            exact getN_same (v := ra) (by rw [getN_other na, getN_other na]; exact da)
/-- leaving -/
theorem leaveL_tie (x : SH) : ∀ (p : List Str) (d : DS) (m : Str), p.Nodup → (∀ m, d.loose m = looseX x m) → (∀ g ∈ p, getN d.gs g = getN x.gs g) → (leaveL d m p).2 = !tieL x m p
  | [], d, m, _, _, _ => rfl
  | g :: p, d, m, nd, hl, hg => by
    obtain ⟨ng, nd'⟩ := List.nodup_cons.mp nd
    have h0 := hg g List.mem_cons_self
    unfold leaveL tieL
    rw [h0]
    cases hr : getN x.gs g with
    | none => rfl
    | some r =>
    dsimp only
    by_cases hh : r.holder ≠ some m
    · rw [if_pos hh, if_pos hh]
      rfl
    rw [if_neg hh, if_neg hh, stand_drop]
    have pe : passLeft (d.tell (e2 "left" m)) g = (match r.places.dropWhile (fun p => !p.2) with
      | [] => (({ (d.tell (e2 "left" m)) with gs := setN d.gs g { r with places := [] }, told := (d.tell (e2 "left" m)).told ++ (r.places.takeWhile fun p => !p.2).map fun p => e3 "passed" p.1 g } : DS), none)
      | q :: t => ({ ({ (d.tell (e2 "left" m)) with gs := setN d.gs g { r with places := q :: t }, told := (d.tell (e2 "left" m)).told ++ (r.places.takeWhile fun p => !p.2).map fun p => e3 "passed" p.1 g } : DS) with firsts := d.firsts ++ [q.1] }, some q.1)) := by
      unfold passLeft
      rw [show getN (d.tell (e2 "left" m)).gs g = some r by rw [← hr, ← h0]; rfl]
      dsimp only
      cases r.places.dropWhile (fun p => !p.2) <;> rfl
    rw [pe]
    cases hdw : r.places.dropWhile (fun p => !p.2) with
    | nil =>
      dsimp only
      refine leaveL_tie x p _ g nd' (fun m => (loose_hs (d := d) rfl m).trans (hl m)) fun g' h' => ?_
      have ne : g' ≠ g := fun z => ng (z ▸ h')
      show getN (setN (setN d.gs g _) g _) g' = _
      rw [getN_other ne, getN_other ne]
      exact hg g' (List.mem_cons_of_mem _ h')
    | cons q t =>
      dsimp only
      have e1 : ∀ D1 : DS, D1.hs = d.hs → D1.loose q.1 = looseX x q.1 := fun D1 h => (loose_hs h _).trans (hl _)
      rw [e1]
      rotate_left
      · rfl
      cases looseX x q.1 <;> rfl
theorem loose_out {x : SH} {h : Str} {r r' : HR} (hr : getN x.hs h = some r) (n : r.how ≠ How.loose) (n' : r'.how ≠ How.loose) (d : DS) (hd : d.hs = setN x.hs h r') (m : Str) : d.loose m = looseX x m := by
  unfold looseX DS.loose
  rw [hd]
  show (match getN (setN x.hs h r') m with | some r => decide (r.how = How.loose) | none => false) = match getN x.hs m with | some r => decide (r.how = How.loose) | none => false
  by_cases e : m = h
  · subst e
    rw [getN_same hr, hr]
    simp [n, n']
  · rw [getN_other e]
def reasonP (s : Sta) (x : SH) (h : Str) (r : HR) (rows : List Row) (p : List Str) : Option Str := match r.how with
  | .loose => none
  | .waits => (match r.looks with
    | none => some "waits"
    | some l => if l = 0 ∧ tieL x h p = true then some "ties" else none)
  | _ => if r.row = (rows.length : Int) then some "ended" else if r.how = .within ∧ rows[r.row.toNat]? = some .let_ ∧ tieA s x p none = true then some "ties" else none
theorem why_is {s : Sta} {x : SH} {h : Str} {r : HR} {rows : List Row} {p : List Str} {hk gk : List Str} {w : Str} (so : SOk s hk gk w) (hr : getN x.hs h = some r) (hp : getN s.progs h = some rows) (hpa : getN s.paths h = some p) (nd : p.Nodup) (hx : ∀ g ∈ p, ∃ r, getN x.gs g = some r) (r0 : 0 ≤ r.row) (r1 : r.row ≤ (rows.length : Int)) : (doHow s (draftOf x) h r).2 = reasonP s x h r rows p := by
  have row : r.how ≠ How.loose → (doRow s (draftOf x) h r).2 = (if r.row = (rows.length : Int) then some ("ended" : Str) else if r.how = How.within ∧ rows[r.row.toNat]? = some Row.let_ ∧ tieA s x p none = true then some ("ties" : Str) else none) := fun nl => by
    unfold doRow
    rw [hp]
    dsimp only
    by_cases e : r.row = (rows.length : Int)
    · rw [if_pos e, if_pos e]
    · rw [if_neg e, if_neg e]
      have hi : r.row.toNat < rows.length := by omega
      rw [List.getElem?_eq_getElem hi]
      dsimp only
      generalize rows[r.row.toNat] = row
      cases row with
      | let_ =>
        unfold doAct
        by_cases hw : r.how = .within
        · rw [if_pos hw]
          unfold NL.letGo
          rw [show getN (draftOf x).hs h = some r from hr, hpa]
          dsimp only
          have lt := letL_tie s x p (((draftOf x).setH h ⟨r.row + 1, 0, .out, none⟩).tell (e2 "let" h)) none nd (loose_out hr nl (by intro z; cases z) _ rfl) hx (fun g _ => rfl) (fun g q e r' hr' => by show getN x.gs g = _; rw [hr']; simp)
          generalize letGoL s (((draftOf x).setH h ⟨r.row + 1, 0, .out, none⟩).tell (e2 "let" h)) p = pr at lt
          rw [lt]
          cases tieA s x p none <;> simp [hw]
        · rw [if_neg hw]
          simp [hw]
      | take l =>
        simp only [doAct]
        split <;> simp
      | tri =>
        simp only [doAct]
        split
        · simp
        · split <;> simp
      | say n => simp [doAct]
      | goto n => simp [doAct]
      | iff a n => simp [doAct]
  unfold doHow reasonP
  cases hw : r.how with
  | out =>
    have := row (by rw [hw]; intro z; cases z)
    rw [hw] at this
    exact this
  | within =>
    have := row (by rw [hw]; intro z; cases z)
    rw [hw] at this
    exact this
  | loose => rfl
  | waits =>
    dsimp only
    cases r.looks with
    | none => rfl
    | some l =>
      dsimp only
      by_cases e : l = 0
      · rw [if_pos e]
        unfold NL.leave
        rw [show getN (draftOf x).hs h = some r from hr, hpa]
        dsimp only
        have lt := leaveL_tie x p ((draftOf x).setH h ⟨r.row + 1, 0, .out, none⟩) h nd (loose_out hr (by rw [hw]; intro z; cases z) (by intro z; cases z) _ rfl) (fun g _ => rfl)
        simp only [lt]
        cases tieL x h p <;> simp [e]
      · rw [if_neg e]
        simp [e]
/-! ### what is used below -/
theorem tup_raw {ta : TA} {σ : L2.St} {H : Hp} {Q : VK} (h : ta σ H fun xs H1 => xs.length ≤ sizeLine ∧ ∀ p, H1 p = none → Q (.ref p) (upd H1 p (.tup xs))) : tTup ta σ H Q := h
theorem lst_raw {ta : TA} {σ : L2.St} {H : Hp} {Q : VK} (h : ta σ H fun xs H1 => xs.length ≤ sizeLine ∧ ∀ p, H1 p = none → Q (.ref p) (upd H1 p (.lst xs))) : tLst ta σ H Q := h
theorem op_raw {r : R2} {ta tb : TE} {σ : L2.St} {H : Hp} {Q : VK} (h : ta σ H fun x H1 => tb σ H1 fun y H2 => r x y H2 Q) : tOp r ta tb σ H Q := h
theorem tn_raw {σ : L2.St} {H : Hp} {Q : List V → Hp → Prop} (h : Q [] H) : tNil σ H Q := h
theorem tc_raw {v : V} {σ : L2.St} {H : Hp} {Q : VK} (h : Q v H) : tC v σ H Q := h
theorem tB_raw {te : TE} {σ : L2.St} {H : Hp} {Q : Bool → Hp → Prop} (h : te σ H fun x H1 => ∃ c, x = .bl c ∧ Q c H1) : tB te σ H Q := h
theorem tst_raw {te : TE} {σ : L2.St} {H : Hp} {Q : Bool → Hp → Prop} (h : te σ H fun x H1 => ∃ c, x = .bl c ∧ Q c H1) : tTest te σ H Q := h
theorem not_raw {t : TT} {σ : L2.St} {H : Hp} {Q : Bool → Hp → Prop} (h : t σ H fun c H1 => Q (!c) H1) : tNot t σ H Q := h
theorem or_raw {t u : TT} {σ : L2.St} {H : Hp} {Q : Bool → Hp → Prop} (h : t σ H fun c H1 => if c = true then Q true H1 else u σ H1 Q) : tOr t u σ H Q := h
theorem nx_tn {D : Ends} {σ : L2.St} {H : Hp} (h : D.nx σ H) : tNext D σ H := h
theorem q_ifQ {t : TT} {tu tz : TS} {D : Ends} {σ : L2.St} {H : Hp} (h : t σ H fun c H1 => if c = true then tu { D with nx := tz D } σ H1 else tz D σ H1) : tSeq (tIfS t tu tNext) tz D σ H := h
theorem andV_raw {ta tb : TE} {σ : L2.St} {H : Hp} {Q : VK} (h : ta σ H fun x H1 => ∃ c, x = .bl c ∧ if c = true then tb σ H1 Q else Q (.bl false) H1) : tAndV ta tb σ H Q := h
theorem lst_turns47 {K : PySem.W.Frag} {a : Addr} {xs : List V} {g : TG} {tb tz : TS} {D : Ends} {σ : L2.St} {H : Hp} (Pv : Nat → L2.St → Hp → Prop) (h0 : Pv 0 σ H) (hl : ∀ i σ H, i ≤ xs.length → Pv i σ H → SqL K H a xs)
    (hs : ∀ i x σ' H', xs[i]? = some x → Pv i σ' H' → g x σ' H' fun σ2 H2 => tb { D with nx := Pv (i + 1), ct := Pv (i + 1), bk := tz D } σ2 H2) (hd : ∀ σ' H', Pv xs.length σ' H' → tz D σ' H') :
    ∃ W : Nat → Nat → L2.St → Hp → Prop, (∃ m, W 0 m σ H) ∧ ∀ i m σ H, W i m σ H →
    ((Itl K a).stop i H ∧ tz D σ H) ∨ ((Itl K a).go i H ∧ ∃ N : L2.St → Hp → Prop, (∀ σ' H', N σ' H' → ∃ m', m' < m ∧ W (i + 1) m' σ' H') ∧ ∀ x H', (Itl K a).yld i H x H' → g x σ H' fun σ2 H2 => tb { D with nx := N, ct := N, bk := tz D } σ2 H2) :=
  for_list (K := K) (a := a) (xs := xs) (D := { D with nx := tz D }) Pv h0 hl hs hd
theorem and_raw {t u : TT} {σ : L2.St} {H : Hp} {Q : Bool → Hp → Prop} (h : t σ H fun c H1 => if c = true then u σ H1 Q else Q false H1) : tAnd t u σ H Q := h
theorem isN_raw {te : TE} {σ : L2.St} {H : Hp} {Q : VK} (h : te σ H fun x H1 => Q (.bl (decide (x = .non))) H1) : tIsN te σ H Q := h
theorem notN_raw {te : TE} {σ : L2.St} {H : Hp} {Q : VK} (h : te σ H fun x H1 => Q (.bl (!decide (x = .non))) H1) : tNotN te σ H Q := h
theorem if_raw {tt : TT} {ta tb : TE} {σ : L2.St} {H : Hp} {Q : VK} (h : tt σ H fun c H1 => if c = true then ta σ H1 Q else tb σ H1 Q) : tIf tt ta tb σ H Q := h
theorem no_raw {σ : L2.St} {H : Hp} {Q : Option Int → Hp → Prop} (h : Q none H) : tNoPart σ H Q := h
theorem neL0K {X : Cx} {K : PySem.W.Frag} (h : X.K = K) (hu : X.A.units < cLine) : OpR X (compareOp .NotEq) (rEqL0 K not) := by
  subst h
  intro pins s σ H x y v u Q I rx ry told
  obtain ⟨a, b, xs, rfl, rfl, ha, hb, q⟩ := told
  cases rx
  cases ry
  obtain ⟨its, r1, p1, _⟩ := I.list ha
  obtain ⟨its2, r2, p2, _⟩ := I.list hb
  have e := vals0 r2
  subst e
  have ie := vals_isE r1
  cases its with
  | nil =>
    refine SeqAt.RcNeAt.lists (e := fun _ => true) p1.isList p2.isList rfl hu (fun j _ h2 => absurd h2 (by simp)) _ _ _ _ ?_
    refine ⟨.bl (!xs.isEmpty), H, I, ?_, q⟩
    rw [← ie]
    rfl
  | cons i r =>
    refine SeqAt.RcNeAt.lists_lengths p1.isList p2.isList (by simp) hu _ _ _ _ ?_
    refine ⟨.bl (!xs.isEmpty), H, I, ?_, q⟩
    rw [← ie]
    rfl
theorem ev_eqL0 {K : PySem.W.Frag} {σ : L2.St} {H : Hp} {ta : TE} {a : Addr} {xs : List V} {f : Bool → Bool} (ha : Ev ta σ H (.ref a)) (hs : SqL K H a xs) : Ev (tOp (rEqL0 K f) ta (tLst tNil)) σ H (.bl (f xs.isEmpty)) := fun H1 e Q q =>
  ha H1 e _ fun H2 e2 => ⟨(by show 0 ≤ sizeLine; decide), fun p hp => ⟨a, p, xs, rfl, rfl, ex_l ((e.trans e2).trans (Ex.new hp)) hs, sq_of upd_same, q _ (e2.trans (Ex.new hp))⟩⟩
theorem hu_e1 {k : Nat} {A : Around} (hr : Room k A) : A.units + 1 < cLine := by
  have := hu_r hr
  omega
theorem slA_cut {K : PySem.W.Frag} {H : Hp} {Q : VK} {t : Addr} {xs : List V} {lo hi : Option Int} (ht : SqT K H t xs) (q : ∀ r H', Ex H H' → SqT K H' r (cutV xs lo hi) → Q (.ref r) H') : rSlA K (.ref t) lo hi H Q := ⟨t, xs, rfl, ht, fun w => by
  have c : cutV xs lo hi = xs := by
    unfold cutV
    rw [w.1, w.2]
    simp
  rw [c] at q
  exact q t H (Ex.refl H) ht, fun _ r hr => q r _ (Ex.new hr) (st_of upd_same)⟩
theorem td_nameF {K : PySem.W.Frag} {H : Hp} {x : Str} (h : nameOk x) : TD K H 100 1 0 (.str x) (.str x) := td_str (fun c hc => by have := h.2.2 c hc; omega) (by have := h.2.1; omega)
/-! ### why, and stuck -/
def whyP (s : Sta) (x : SH) (h : Str) : Option Str := match getN x.hs h with
  | some r => (doHow s (draftOf x) h r).2
  | none => none
theorem why_told {s : Sta} {x : SH} {h : Str} {r : HR} (hr : getN x.hs h = some r) (ne : (stepP s x h).2 ≠ []) : ∃ e es, (drafted s x h).told = e :: es ∧ ((∃ w, whyP s x h = some w ∧ e = .tuple [.str "idle", .str h, .str w] ∧ es = []) ∨ (whyP s x h = none ∧ ∃ z r', e = .tuple (.str z :: r') ∧ z ≠ "idle")) := by
  have ne : (drafted s x h).told ≠ [] := ne
  have n0 : NI GE (draftOf x) := fun e he => by cases he
  have main := how_i kinds_ge (s := s) (h := h) (r := r) n0
  unfold whyP
  unfold drafted at ne ⊢
  rw [hr] at ne ⊢
  dsimp only at ne ⊢
  cases hd : doHow s (draftOf x) h r with
  | mk d o =>
    rw [hd] at ne main
    cases o with
    | some w => exact ⟨_, _, rfl, Or.inl ⟨w, rfl, rfl, rfl⟩⟩
    | none =>
      dsimp only at ne main ⊢
      cases hx : d.told with
      | nil => exact absurd hx ne
      | cons e es =>
        obtain ⟨z, r', rfl, hz⟩ := main e (by rw [hx]; exact List.mem_cons_self)
        exact ⟨_, _, rfl, Or.inr ⟨rfl, z, r', rfl, hz⟩⟩
theorem fld_raw40 {K : PySem.W.Frag} {te : TE} {f : Str} {σ : L2.St} {H : Hp} {Q : VK} (h : te σ H fun x H1 => ∃ a C dx fs v, x = .ref a ∧ H1 a = some (.ins C dx fs) ∧ Cls K C ∧ NoAttr K C f ∧ fs.lookup f = some v ∧ Q v H1) : tFld K te f σ H Q := h
theorem ret_raw40 {te : TE} {D : Ends} {σ : L2.St} {H : Hp} (h : te σ H D.rt) : tRet te D σ H := h
theorem ev_in40 {K : PySem.W.Frag} {H : Hp} {u : V} {a b c : Str} (h : EvV K H u (.tuple [.str a, .str b, .str c])) : ∃ p, u = .ref p ∧ SqT K H p [.str a, .str b, .str c] := by
  obtain ⟨d, _⟩ := h
  cases d with
  | @tup p xs ds st da =>
    cases da with
    | cons x1 d1 =>
      cases d1 with
      | cons x2 d2 =>
        cases d2 with
        | cons x3 d3 =>
          cases d3
          cases x1
          cases x2
          cases x3
          exact ⟨p, rfl, st⟩
theorem ev_head40 {K : PySem.W.Frag} {H : Hp} {u : V} {z : Str} {ds : List PyData} (h : EvV K H u (.tuple (.str z :: ds))) : ∃ p xs, u = .ref p ∧ SqT K H p (.str z :: xs) := by
  obtain ⟨d, _⟩ := h
  cases d with
  | @tup p xs ds st da =>
    cases da with
    | cons x1 d1 =>
      cases x1
      exact ⟨p, _, rfl, st⟩
theorem hoR_lock {K : PySem.W.Frag} {C : Addr} {H : Hp} {B : HoA} {s : Sta} {x : SH} {od : Obj} {kvs : List (Key × V)} (ho : HoAt K C H B s x) (ap : Apt B) (h1 : H B.hd = some (.dK kvs)) : HoR K C (upd H B.hd (.frz od (.dK kvs))) B s x := by
  have st : ST K H (upd H B.hd (.frz od (.dK kvs))) := ST.dk h1
  have go : ∀ {d : Addr}, B.hd ≠ d → ∀ o, H d = some o → upd H B.hd (.frz od (.dK kvs)) d = some o := fun n o z => by rw [upd_ne (Ne.symm n)]; exact z
  have pd : B.hd ≠ B.p := fun z => by
    have y := ho.ob
    rw [← z, h1] at y
    cases y
  obtain ⟨kv, a, b, c⟩ := ho.hs
  rw [h1] at a
  cases a
  exact ⟨go pd _ ho.ob, ho.pa.st (go ap.1) fun _ _ z => z.st st, ho.bo.st (go ap.2.1) fun _ _ z => z, ho.pr.st (go ap.2.2.1) fun _ _ z => z.st st, ⟨kvs, .inr ⟨od, upd_same⟩, paired_mono (fun _ _ z => ⟨z.1, z.2.st st⟩) b, c⟩, ho.gs.st (go ap.2.2.2) fun _ _ z => z.st st⟩
theorem nx_mk40 {f rt' bk' ct'} {σ : L2.St} {H : Hp} (h : f σ H) : ({ nx := f, rt := rt', bk := bk', ct := ct' } : Ends).nx σ H := h
theorem dya_snoc40 {K : PySem.W.Frag} {H : Hp} {v : V} {d : PyData} (h : Dy K H v d) : ∀ {vs : List V} {ds : List PyData}, DyAll K H vs ds → DyAll K H (vs ++ [v]) (ds ++ [d])
  | _, _, .nil => .cons h .nil
  | _, _, .cons a t => .cons a (dya_snoc40 h t)
theorem opt_dy40 {K : PySem.W.Frag} {H : Hp} (o : Option Str) : Dy K H (optS o) (optDS o) := by
  cases o
  · exact .non
  · exact .str _
theorem to_rows40 (s : Sta) (x : SH) : ∀ xs : List (Str × HR), tupOnlys (xs.map fun y => .tuple [.str y.1, optDS (whyP s x y.1)]) = true
  | [] => rfl
  | y :: ys => by
    have ih := to_rows40 s x ys
    show (tupOnly (.tuple [.str y.1, optDS (whyP s x y.1)]) && tupOnlys (ys.map fun y => .tuple [.str y.1, optDS (whyP s x y.1)])) = true
    rw [ih]
    cases whyP s x y.1 <;> rfl
theorem st_frz40 {K : PySem.W.Frag} {H : Hp} {d : Addr} {od : Obj} {kvs : List (Key × V)} (h : H d = some (.frz od (.dK kvs))) : ST K H (upd H d (.dK kvs)) := fun a xs t => by
  rcases t with (z | ⟨ob, z⟩) | z
  · exact Or.inl (Or.inl (by rw [upd_ne (fun y => by rw [y, h] at z; cases z)]; exact z))
  · exact Or.inl (Or.inr ⟨ob, by rw [upd_ne (fun y => by rw [y, h] at z; cases z)]; exact z⟩)
  · exact Or.inr z
theorem row_at40 {K : PySem.W.Frag} {H : Hp} {s : Sta} {x : SH} : ∀ {us : List V} {xs : List (Str × HR)} {i : Nat} {u : V}, DyAll K H us (xs.map fun y => .tuple [.str y.1, optDS (whyP s x y.1)]) → us[i]? = some u → ∃ y, xs[i]? = some y ∧ ∃ a, u = .ref a ∧ SqT K H a [.str y.1, optS (whyP s x y.1)]
  | _, [], _, _, .nil, h => by simp at h
  | _, y :: ys, 0, _, .cons a t, h => by
    simp only [List.getElem?_cons_zero, Option.some.injEq] at h
    subst h
    cases a with
    | @tup p zs ds st da =>
      cases da with
      | cons x1 d1 =>
        cases d1 with
        | cons x2 d2 =>
          cases d2
          cases x1
          refine ⟨y, rfl, p, rfl, ?_⟩
          cases hw : whyP s x y.1 with
          | none => rw [hw] at x2; cases x2; exact st
          | some z => rw [hw] at x2; cases x2; exact st
  | _, y :: ys, i + 1, u, .cons _ t, h => by
    simp only [List.getElem?_cons_succ] at h ⊢
    exact row_at40 t h
def spWhy (K : PySem.W.Frag) (C : Addr) : Sp := fun vs H Q _ => ∃ (B : HoA) (s : Sta) (x : SH) (h : Str) (r : HR), vs = [.ref B.p, .str h] ∧ HoR K C H B s x ∧ getN x.hs h = some r ∧ howOk s (draftOf x) h r ∧ (stepP s x h).2 ≠ [] ∧ ∀ H', Ex H H' → Q (optS (whyP s x h)) H'
def spStuck (K : PySem.W.Frag) (C : Addr) : Sp := fun vs H Q _ => ∃ (B : HoA) (s : Sta) (x : SH), vs = [.ref B.p] ∧ HoAt K C H B s x ∧ Apt B ∧ (x.hs.map (·.1)).Nodup ∧ (∀ h r, (h, r) ∈ x.hs → howOk s (draftOf x) h r ∧ (stepP s x h).2 ≠ []) ∧
  ((∃ h r, (h, r) ∈ x.hs ∧ whyP s x h = none) → ∀ H', Ex H H' → Q .non H') ∧ ((∀ h r, (h, r) ∈ x.hs → whyP s x h ≠ none) → ∀ a H', Ex H H' → Dy K H' (.ref a) (.tuple (x.hs.map fun y => .tuple [.str y.1, optDS (whyP s x y.1)])) → Q (.ref a) H')
theorem hat_row40 {K : PySem.W.Frag} {C : Addr} {H : Hp} {p bk : Addr} {v : V} {n : Str} {b : Int} {ms : List Tr} {ds : List PyData} {x : SH} {N : Nat} (f : HAt K C H p v n b ms bk ds x N) {h : Str} (hh : h ∈ handsOf (.grp n b ms)) (hN : N ≤ 1000) : ∃ r, getN x.hs h = some r ∧ howOk (staOf (.grp n b ms) (bookOf ds)) (draftOf x) h r ∧ (stepP (staOf (.grp n b ms) (bookOf ds)) x h).2 ≠ [] := by
  have so := f.so
  have wf := f.wf
  obtain ⟨B, _, _, hs⟩ := f
  obtain ⟨r, h1, h2, _⟩ := hs.next hh hN
  obtain ⟨g, p', hp⟩ := so.ph h hh
  exact ⟨r, h1, h2, step_one h1 hp (key_some wf.gs (so.st h g p' hp).1) h2⟩
section
variable {P : Program} {w : World} {K : PySem.W.Frag} {mg : Str → Option Value} {base : Heap}
theorem ok_why (T : Tp w K mg) : FnOk P w K mg base CX0 18 T.f_why T.d_why ["house", "name"] (spWhy K T.C_House) := by
  refine T.F_why.ok sc_why (fun vs H Q E h => ?_) (fun cdv A outer s0 H vs Q E hr h => ?_)
  · obtain ⟨B, s, x, h, r, rfl, _⟩ := h
    rfl
  obtain ⟨B, s, x, h, r, rfl, ho, h1, h2, h3, q⟩ := h
  refine ⟨_, (pss_cons (ps_set (i := 2) sc_why.nd rfl (Or.inl rfl) (pe_ix (ixLK (K := K) rfl) (pe_fldK (K := K) rfl (pe_call (ok_drafted T) (hr.mono (by decide)) rfl T.m_drafted T.F_drafted.kp (b_drafted T) .nil pass0 (pa_cons (pv 0) (pa_cons (pv 1) pa_nil (star1 rfl)) (star1 rfl)) (by decide) (star1 rfl) (starAll rfl)) rfl) pe_int (fun _ _ => rfl)))
  (pss_one (ps_ret (pe_ifExp (pt_cmpR op_eq (pe_ix (ixTK (K := K) rfl) (pv 2) pe_int (fun _ _ => rfl)) pe_str (nomark _)) (pe_ix (ixTK (K := K) rfl) (pv 2) pe_int (fun _ _ => rfl)) pe_non)))), ?_⟩
  obtain ⟨e, es, ht, hc⟩ := why_told h1 h3
  refine q_asgP (op_raw (fld_raw40 (call_raw ⟨_, rfl, _, rfl, B, s, x, h, r, rfl, ho, h1, h2, fun A H1 e1 _ _ _ dr => ⟨A.q, T.C_Draft, A.dx, A.fields, _, rfl, dr.ob, T.dc.cl, T.dc.tl, fld_tl, tc_raw ?_⟩⟩)))
  obtain ⟨vs, t1, t2, t3⟩ := dr.tl
  rw [ht] at t2
  cases t2 with
  | @cons u us _ _ pe pes =>
  refine ⟨A.tl, _, 0, u, rfl, rfl, sq_of t1, at_nat (i := 0) rfl, ?_⟩
  rcases hc with ⟨ww, hw, rfl, _⟩ | ⟨hw, z, r', rfl, hz⟩
  · obtain ⟨a, rfl, hS⟩ := ev_in40 pe
    refine ret_raw40 (if_raw (tst_raw (op_raw (op_raw ⟨_, rfl, tc_raw ⟨a, _, 0, _, rfl, rfl, hS, rfl, tc_raw ⟨rfl, _, rfl, iteT' rfl (op_raw ⟨_, rfl, tc_raw ⟨a, _, 2, _, rfl, rfl, hS, rfl, ?_⟩⟩)⟩⟩⟩))))
    have := q H1 e1
    rw [hw] at this
    exact this
  · obtain ⟨a, zs, rfl, hS⟩ := ev_head40 pe
    refine ret_raw40 (if_raw (tst_raw (op_raw (op_raw ⟨_, rfl, tc_raw ⟨a, _, 0, .str z, rfl, rfl, hS, at_nat (i := 0) rfl, tc_raw ⟨rfl, _, rfl, iteF' (decide_eq_false fun y => hz (V.str.inj y)) (tc_raw ?_)⟩⟩⟩))))
    have := q H1 e1
    rw [hw] at this
    exact this
theorem ok_stuck (T : Tp w K mg) : FnOk P w K mg base CX0 19 T.f_stuck T.d_stuck ["house"] (spStuck K T.C_House) := by
  refine T.F_stuck.ok sc_stuck (fun vs H Q E h => ?_) (fun cdv A outer s0 H vs Q E hr h => ?_)
  · obtain ⟨B, s, x, rfl, _⟩ := h
    rfl
  obtain ⟨B, s, x, rfl, ho, ap, nd, ok, q1, q2⟩ := h
  refine ⟨_, (pss_cons (ps_lock (ps_setLc (i := 1) (own := [("name", 2)]) (g := gName 2) (tt := tYes) rfl sc_stuck.nd rfl rfl (sw_true rfl rfl rfl (by decide +kernel)) (pi_keys (pe_fldK (K := K) rfl (pv 0) rfl)) (blkOk_by (N := N_stuck) (sc := defScope s_stuck) (by decide +kernel)) (fun _ _ _ _ _ => (pg_name (i := 2) sc_stuck.nd rfl (Or.inl rfl))) (fun _ _ _ _ _ => pts_nil) (fun _ _ _ _ _ => (pe_tup (pa_cons (pv 2) (pa_cons (pe_call (ok_why T) (hr.mono (by decide)) rfl T.m_why T.F_why.kp (b_why T) .nil pass0 (pa_cons (pv 0) (pa_cons (pv 2) pa_nil (star1 rfl)) (star1 rfl)) (by decide) (star1 rfl) (starAll rfl)) pa_nil (star1 rfl)) (star1 rfl))))))
  (pss_cons (ps_if (pt_val (pe_callB (anyK (K := K) rfl rfl) rfl T.z_any (by decide +kernel) (pa_cons (pe_lc (own := [("name", 2), ("reason", 3)]) (g := gTup K 2 (gCons (gName 2) (gCons (gName 3) gNil))) (tt := tYes) rfl sc_stuck.nd (plLK (K := K) rfl (pv 1)) (blkOk_by (N := N_stuck) (sc := defScope s_stuck) (by decide +kernel)) (fun _ _ _ _ _ => (pg_tup rfl (pgs_cons (pg_name (i := 2) sc_stuck.nd rfl (Or.inl rfl)) (pgs_cons (pg_name (i := 3) sc_stuck.nd rfl (Or.inl rfl)) pgs_nil)))) (fun _ _ _ _ _ => pts_nil) (fun _ _ _ _ _ => (pe_cmp (pc_isN (pv 3))))) pa_nil (star1 rfl)) (by decide) (by decide) (star1 rfl) (starAll rfl))) (pss_one (ps_ret pe_non)) pss_nil)
  (pss_one (ps_ret (pe_callTy (tupleK (K := K) rfl) rfl T.z_tuple (by decide +kernel) (pa_cons (pv 1) pa_nil (star1 rfl)) (by decide) (by decide) (star1 rfl) (starAll rfl)))))), ?_⟩
  obtain ⟨kvs, h1, h2, hln⟩ := id ho.hs
  have obH := ho.ob
  refine ⟨B.hd, .dK kvs, h1, True.intro, fun od => ?_⟩
  have pd : B.p ≠ B.hd := fun z => by
    rw [z, h1] at obH
    cases obH
  have fz : upd H B.hd (.frz od (.dK kvs)) B.hd = some (.frz od (.dK kvs)) := upd_same
  have hoL : HoR K T.C_House (upd H B.hd (.frz od (.dK kvs))) B s x := hoR_lock ho ap h1
  have oth : ∀ x, x ≠ B.hd → upd H B.hd (.frz od (.dK kvs)) x = H x := fun x n => upd_ne n
  have back : ∀ H' : Hp, Ex (upd H B.hd (.frz od (.dK kvs))) H' → Ex H (upd H' B.hd (.dK kvs)) := fun H' e c o z => by
    by_cases w : c = B.hd
    · rw [w, h1] at z
      rw [w, upd_same]
      exact z
    · rw [upd_ne w]
      exact e _ _ (by rw [oth c w]; exact z)
  generalize upd H B.hd (.frz od (.dK kvs)) = G at fz hoL oth back ⊢
  refine s_asgP ?_
  refine ⟨_, rfl, B.p, T.C_House, B.dx, B.fields, _, rfl, hoL.ob, T.cl_House, T.na_House_hands, hf_hd, B.hd, od, rfl, Or.inl ⟨kvs, fz, fun D hD => ?_⟩⟩
  refine lc_it walk_keys (fun i H' => Ex G H' ∧ ∃ us, H' D = some (.lst us) ∧ DyAll K H' us ((x.hs.take i).map fun y => .tuple [.str y.1, optDS (whyP s x y.1)]) ∧ us.length = i) ⟨Ex.new hD, [], upd_same, .nil, rfl⟩ (fun i H' _ hP => hP.1 _ _ fz) ?_ ?_
  · rintro i y H2 H3 hi ⟨e2, us, hacc, dy, ul⟩ ⟨rfl, k, v, hk, rfl⟩
    obtain ⟨y, hy, ⟨e1, hv⟩⟩ := NL.paired_get h2 hk
    obtain ⟨yn, yr⟩ := y
    dsimp only at e1 hv
    subst e1
    have ym := List.mem_of_getElem? hy
    obtain ⟨ok1, ok2⟩ := ok yn yr ym
    refine ⟨rfl, tYesQ (tup_raw (cons_raw ⟨_, rfl, cons_raw (call_raw (cons_raw ⟨_, rfl, cons_raw ⟨_, rfl, tn_raw ⟨B, s, x, yn, yr, rfl, hoL.ex e2, getN_mem nd ym, ok1, ok2, fun H4 e4 => tn_raw ⟨(by show 2 ≤ sizeLine; decide), fun pt hpt => ?_⟩⟩⟩⟩))⟩))⟩
    have e5 := e4.trans (Ex.new (o := .tup [kV (.inr yn), optS (whyP s x yn)]) hpt)
    have pt5 : upd H4 pt (.tup [kV (.inr yn), optS (whyP s x yn)]) pt = some (.tup [.str yn, optS (whyP s x yn)]) := upd_same
    generalize upd H4 pt (.tup [kV (.inr yn), optS (whyP s x yn)]) = H5 at e5 pt5 ⊢
    have il := (List.getElem?_eq_some_iff.mp hy).1
    have st6 : ST K H3 (upd H5 D (.lst (us ++ [.ref pt]))) := (ST.ex e5).trans (ST.lst (e5 _ _ hacc))
    refine ⟨_, e5 _ _ hacc, sz_lt (by rw [ul]; omega), Ex.mut (e2.trans e5) hD, us ++ [.ref pt], upd_same, ?_, by rw [List.length_append, ul]; rfl⟩
    rw [List.take_succ_eq_append_getElem il, (List.getElem?_eq_some_iff.mp hy).2, List.map_append]
    refine dya_snoc40 (.tup (Or.inl (Or.inl (by rw [upd_ne (fun z => by rw [z, e5 _ _ hacc] at pt5; cases pt5)]; exact pt5))) (.cons (.str _) (.cons (opt_dy40 _) .nil))) (dya_st st6 _ _ (to_rows40 s x _) dy)
  rintro H3 ⟨e3, us, hD3, dy, ul⟩
  have kl := paired_len h2
  rw [kl, List.take_length] at dy
  have n2 : D ≠ B.hd := fun z => by rw [z, e3 _ _ fz] at hD3; cases hD3
  refine ⟨e3 _ _ fz, ?_⟩
  have eB := back H3 e3
  have hD4 : upd H3 B.hd (.dK kvs) D = some (.lst us) := by rw [upd_ne n2]; exact hD3
  have dy4 : DyAll K (upd H3 B.hd (.dK kvs)) us (x.hs.map fun y => .tuple [.str y.1, optDS (whyP s x y.1)]) := dya_st (st_frz40 (e3 _ _ fz)) _ _ (to_rows40 s x _) dy
  generalize upd H3 B.hd (.dK kvs) = H4 at eB hD4 dy4 ⊢
  clear dy hD3 e3 back oth hoL fz hD
  -- whether one moves
  refine nx_mk40 (q_ifQ (tB_raw (cb_raw (cons_raw ?_))))
  refine ⟨_, rfl, D, rfl, ⟨_, sq_of hD4⟩, fun D2 hD2 => ?_⟩
  refine lc_list (K := K) (a := D) (xs := us) (fun i H' => Ex H4 H' ∧ H' D2 = some (.lst (((x.hs.take i).map fun y => decide (whyP s x y.1 = none)).map V.bl))) ⟨Ex.new hD2, upd_same⟩ (fun i H' _ hP => sq_of (hP.1 _ _ hD4)) ?_ ?_
  · rintro i u H5 hi ⟨e5, hacc⟩
    obtain ⟨y, hy, a, rfl, ha⟩ := row_at40 dy4 hi
    have il := (List.getElem?_eq_some_iff.mp hy).1
    refine ⟨a, _, rfl, ex_t e5 ha, rfl, _, _, rfl, _, _, rfl, rfl, rfl, tYesQ (isN_raw ⟨_, rfl, _, hacc, sz_lt (by rw [List.length_map, List.length_map, List.length_take]; omega), Ex.mut e5 hD2, ?_⟩)⟩
    rw [upd_same, List.take_succ_eq_append_getElem il, (List.getElem?_eq_some_iff.mp hy).2, List.map_append, List.map_append]
    have : decide (optS (whyP s x y.1) = V.non) = decide (whyP s x y.1 = none) := by cases whyP s x y.1 <;> simp [optS]
    rw [this]
    rfl
  rintro H5 ⟨e5, hacc⟩
  have ux : us.length = x.hs.length := by rw [ul, kl]
  rw [ux, List.take_length] at hacc
  refine tn_raw ⟨D2, _, rfl, sq_of hacc, _, rfl, ?_⟩
  by_cases anyN : ∃ h r, (h, r) ∈ x.hs ∧ whyP s x h = none
  · obtain ⟨h0, r0, m0, w0⟩ := anyN
    refine iteT' ?_ (q1 ⟨h0, r0, m0, w0⟩ H5 (eB.trans e5))
    rw [List.any_eq_true]
    exact ⟨true, List.mem_map.mpr ⟨_, m0, by simpa using w0⟩, rfl⟩
  · refine iteF' ?_ ?_
    · rw [List.any_eq_false]
      rintro b hb
      obtain ⟨y, hy, rfl⟩ := List.mem_map.mp hb
      have : ¬ whyP s x y.1 = none := fun z => anyN ⟨y.1, y.2, hy, z⟩
      simp [this]
    · refine ret_raw40 (cb_raw (cons_raw ⟨_, rfl, tn_raw ⟨D, us, rfl, Or.inl ⟨sq_of (e5 _ _ hD4), fun t ht => ?_⟩⟩⟩))
      refine q2 (fun h r m z => anyN ⟨h, r, m, z⟩) t _ ((eB.trans e5).trans (Ex.new ht)) (.tup (Or.inl (Or.inl upd_same)) ?_)
      exact dya_st (ST.ex (e5.trans (Ex.new ht))) _ _ (to_rows40 s x _) dy4
end
/-! ### one house asked, and one refused -/
def whyD (s : Sta) (x : SH) (h : Str) : PyData := .tuple [.str h, optDS (whyP s x h)]
theorem hat_stuck40 {K : PySem.W.Frag} {C : Addr} {H : Hp} {p bk : Addr} {v : V} {n : Str} {b : Int} {ms : List Tr} {ds : List PyData} {x : SH} {N : Nat} {Q : VK} {E : XK} (f : HAt K C H p v n b ms bk ds x N) (hN : N ≤ 1000) (q1 : (∃ h ∈ handsOf (.grp n b ms), whyP (staOf (.grp n b ms) (bookOf ds)) x h = none) → ∀ H', Ex H H' → Q .non H') (q2 : (∀ h ∈ handsOf (.grp n b ms), whyP (staOf (.grp n b ms) (bookOf ds)) x h ≠ none) → ∀ a H', Ex H H' → Dy K H' (.ref a) (.tuple ((handsOf (.grp n b ms)).map (whyD (staOf (.grp n b ms) (bookOf ds)) x))) → Q (.ref a) H') : spStuck K C [.ref p] H Q E := by
  have fx := f
  have nd := f.ndh
  have ks : x.hs.map (·.1) = handsOf (.grp n b ms) := f.wf.ks
  obtain ⟨B, rfl, rfl, hs⟩ := f
  refine ⟨B, _, x, rfl, hs.ho, hs.ap, nd, fun h r hm => ?_, fun ⟨h, r, hm, hw⟩ => q1 ⟨h, by rw [← ks]; exact List.mem_map.mpr ⟨_, hm, rfl⟩, hw⟩, fun hall a H' e dy => q2 (fun h hm => ?_) a H' e ?_⟩
  · have hm' : h ∈ handsOf (.grp n b ms) := by rw [← ks]; exact List.mem_map.mpr ⟨_, hm, rfl⟩
    obtain ⟨r', h1, h2, h3⟩ := hat_row40 fx hm' hN
    rw [getN_mem nd hm] at h1
    cases h1
    exact ⟨h2, h3⟩
  · rw [← ks] at hm
    obtain ⟨y, hy, rfl⟩ := List.mem_map.mp hm
    exact hall y.1 y.2 hy
  · rw [← ks, List.map_map]
    exact dy
mutual
theorem lay_of40 {B : Nat} : ∀ (d : PyData), okD B d → tupOnly d = true → PyData.canLay0 d = true
  | .none, _, _ => rfl
  | .bool _, _, _ => rfl
  | .int _, _, _ => rfl
  | .str s, h, _ => asc_lay h
  | .tuple ds, h, t => lays_of40 ds h t
  | .list ds, _, t => by cases t
  | .dict ds, _, t => by cases t
theorem lays_of40 {B : Nat} : ∀ (ds : List PyData), okDs B ds → tupOnlys ds = true → PyData.canLayAll0 ds = true
  | [], _, _ => rfl
  | d :: ds, h, t => by
    have t : (tupOnly d && tupOnlys ds) = true := t
    rw [Bool.and_eq_true] at t
    show (PyData.canLay0 d && PyData.canLayAll0 ds) = true
    rw [lay_of40 d h.1 t.1, lays_of40 ds h.2 t.2]
    rfl
end
theorem shaped40 {B : Nat} {d : PyData} (h : okD B d) (t : tupOnly d = true) (hd : d.depth ≤ 64) : SeqAt.shaped d = true := by
  unfold SeqAt.shaped
  rw [Bool.and_eq_true]
  exact ⟨lay_of40 d h t, decide_eq_true hd⟩
mutual
theorem dat_to40 : ∀ t : Tr, tupOnly t.dat = true
  | .hand n => rfl
  | .grp n b ms => by
    show (true && (true && (tupOnlys (dats ms) && true))) = true
    rw [dats_to40 ms]
    rfl
theorem dats_to40 : ∀ ts : List Tr, tupOnlys (dats ts) = true
  | [] => rfl
  | t :: ts => by
    show (tupOnly t.dat && tupOnlys (dats ts)) = true
    rw [dat_to40 t, dats_to40 ts]
    rfl
end
theorem hat_eq40 {K : PySem.W.Frag} {C : Addr} {H : Hp} {p p2 bk : Addr} {v : V} {n : Str} {b : Int} {ms : List Tr} {ds : List PyData} {x : SH} {N M : Nat} {Q : VK} {E : XK} {g : Bool → Bool} (f : HAt K C H p v n b ms bk ds x N) (f2 : HAt K C H p2 v n b ms bk ds x M) (hN : N ≤ 500) (q : ∀ H', Ex H H' → Q (.bl (g true)) H') : rCmpO C (spEqH K C) E g (.ref p) (.ref p2) H Q := by
  have xo := f.xok hN
  have io := f.io
  have io2 := f2.io
  have dp : Dp K H v (Tr.grp n b ms).dat ∧ SeqAt.shaped (Tr.grp n b ms).dat = true := by
    obtain ⟨w1, w2, w3, w4⟩ := dat_wt _ io.nm io.ok
    refine ⟨dy_dp _ _ (dat_to40 _) (trv_dy _ _ io.tv), shaped40 w4 (dat_to40 _) ?_⟩
    have := io.dp
    omega
  have db : Dp K H (.ref bk) (.tuple ds) ∧ SeqAt.shaped (.tuple ds) = true := by
    obtain ⟨o, xs, h1, h2, tds⟩ := io.bk
    have tdb := TDs.tup (n := 40) tds (Or.inl (Or.inr ⟨o, h1⟩)) (by have := io.dl; omega)
    exact ⟨dy_dp _ _ tdb.to tdb.dy, shaped40 tdb.ok tdb.to (Nat.le_trans tdb.dp (by decide))⟩
  obtain ⟨B, rfl, rfl, hs⟩ := f
  obtain ⟨B2, rfl, pv2, hs2⟩ := f2
  exact ⟨B.p, B2.p, _, _, _, _, rfl, rfl, hs.ho.ob, hs2.ho.ob, B, B2, _, _, x, _, _, rfl, hs.ho, hs2.ho, xo.nh, xo.ng, dp.1, by rw [pv2]; exact dp.1, dp.2, by rw [hs.bv]; exact db.1, by rw [hs2.bv]; exact db.1, db.2, (fun g' r hg => by
    have z := xo.g _ (mem_getN hg)
    exact ⟨z.2.2.1, z.2.2.2⟩), fun H' e => ⟨_, rfl, q H' e⟩⟩
theorem bm_rawA40 {K : PySem.W.Frag} {r : V → List V → Hp → VK → Prop} {te : TE} {ta : TA} {σ : L2.St} {H : Hp} {Q : VK} {l : Addr} {xs : List V} (he : Ev te σ H (.ref l)) (hl : H l = some (.lst xs)) (h : ∀ H1, Ex H H1 → ta σ H1 fun vs H2 => r (.ref l) vs H2 Q) : tBM K "list" r te ta σ H Q :=
  he H (Ex.refl H) _ fun H1 e1 => ⟨Or.inl ⟨rfl, xs, sq_of (e1 _ _ hl)⟩, h H1 e1⟩
theorem whyDs_to40 (s : Sta) (x : SH) : ∀ hs : List Str, tupOnlys (hs.map (whyD s x)) = true ∧ lensOks (hs.map (whyD s x)) = true ∧ PyData.depthAll (hs.map (whyD s x)) ≤ 1
  | [] => ⟨rfl, rfl, by simp [PyData.depthAll]⟩
  | y :: ys => by
    obtain ⟨i1, i2, i3⟩ := whyDs_to40 s x ys
    refine ⟨?_, ?_, ?_⟩
    · show (tupOnly (whyD s x y) && tupOnlys (ys.map (whyD s x))) = true
      rw [i1]
      unfold whyD
      cases whyP s x y <;> rfl
    · show (lensOk (whyD s x y) && lensOks (ys.map (whyD s x))) = true
      rw [i2]
      unfold whyD
      cases whyP s x y <;> rfl
    · show max (whyD s x y).depth (PyData.depthAll (ys.map (whyD s x))) ≤ 1
      have : (whyD s x y).depth ≤ 1 := by
        unfold whyD
        cases whyP s x y <;> simp [PyData.depth, PyData.depthAll, optDS]
      omega
theorem why_at40 {K : PySem.W.Frag} {H : Hp} {s : Sta} {x : SH} : ∀ {us : List V} {hs : List Str} {i : Nat} {u : V}, DyAll K H us (hs.map (whyD s x)) → us[i]? = some u → ∃ y, hs[i]? = some y ∧ ∃ a, u = .ref a ∧ SqT K H a [.str y, optS (whyP s x y)]
  | _, [], _, _, .nil, h => by simp at h
  | _, y :: ys, 0, _, .cons a t, h => by
    simp only [List.getElem?_cons_zero, Option.some.injEq] at h
    subst h
    unfold whyD at a
    cases a with
    | @tup p zs ds st da =>
      cases da with
      | cons x1 d1 =>
        cases d1 with
        | cons x2 d2 =>
          cases d2
          cases x1
          refine ⟨y, rfl, p, rfl, ?_⟩
          cases hw : whyP s x y with
          | none => rw [hw] at x2; cases x2; exact st
          | some z => rw [hw] at x2; cases x2; exact st
  | _, y :: ys, i + 1, u, .cons _ t, h => by
    simp only [List.getElem?_cons_succ] at h ⊢
    exact why_at40 t h
theorem n23_40 {K : PySem.W.Frag} {C : Addr} {H H' : Hp} {p p3 bk : Addr} {v : V} {n : Str} {b : Int} {ms : List Tr} {ds : List PyData} {x : SH} {N : Nat} (f : HAt K C H p v n b ms bk ds x N) (e : Ex H H') (np : H p3 = none) (w : p = p3) : False := by
  obtain ⟨_, _, z⟩ := f.ob
  rw [w, np] at z
  cases z
theorem st_step40 {K : PySem.W.Frag} {C : Addr} {H H' : Hp} {p bk : Addr} {v : V} {n : Str} {b : Int} {ms : List Tr} {ds : List PyData} {x : SH} {N : Nat} (f : HAt K C H p v n b ms bk ds x N) (k : ∀ c o, c ≠ p → H c = some o → H' c = some o) : ST K H H' := by
  obtain ⟨_, _, z⟩ := f.ob
  exact st_ins z fun c o n _ y => k c o n y
/-! ### where nothing moves -/
theorem tieA_loose41 {s : Sta} {x : SH} : ∀ (p : List Str) (put : Option Str), tieA s x p put = true → ∃ m, looseX x m = true
  | [], _, h => by simp [tieA] at h
  | g :: p, put, h => by
    unfold tieA at h
    split at h
    · exact tieA_loose41 p none h
    · rename_i m t e
      by_cases l : looseX x m = true
      · exact ⟨m, l⟩
      · rw [if_neg l] at h
        split at h
        · cases h
        · exact tieA_loose41 p (some g) h
theorem tieL_loose41 {x : SH} : ∀ (p : List Str) (m : Str), tieL x m p = true → ∃ m, looseX x m = true
  | [], _, h => by simp [tieL] at h
  | g :: p, m, h => by
    unfold tieL at h
    split at h
    · cases h
    · split at h
      · cases h
      · split at h
        · exact tieL_loose41 p g h
        · exact ⟨_, h⟩
theorem loose_row41 {x : SH} {m : Str} (h : looseX x m = true) : ∃ r, getN x.hs m = some r ∧ r.how = .loose := by
  unfold looseX DS.loose at h
  have e : (draftOf x).hs = x.hs := rfl
  rw [e] at h
  cases hg : getN x.hs m with
  | none => rw [hg] at h; cases h
  | some r => rw [hg] at h; exact ⟨r, rfl, of_decide_eq_true h⟩
section
variable {s : Sta} {hk gk : List Str} {w : Str} {x : SH} {N : Nat}
theorem why_row41 (so : SOk s hk gk w) (wf : WF s hk gk w x N) {h : Str} (hh : h ∈ hk) : ∃ r rows p, getN x.hs h = some r ∧ getN s.progs h = some rows ∧ getN s.paths h = some p ∧ whyP s x h = reasonP s x h r rows p := by
  obtain ⟨g, pth, hpt⟩ := so.ph h hh
  obtain ⟨rows, hrows, _⟩ := so.pr h hh
  obtain ⟨r, hr'⟩ := key_some wf.ks hh
  obtain ⟨ri0, ri1, _, _⟩ := wf.ri h r rows hr' hrows
  refine ⟨r, rows, _, hr', hrows, hpt, ?_⟩
  unfold whyP
  rw [hr']
  exact why_is so hr' hrows hpt (path_nd so hpt) (fun g' hg' => key_some wf.gs (path_gk so hpt g' hg')) ri0 ri1
theorem key_in41 {r : HR} (wf : WF s hk gk w x N) {m : Str} (h : getN x.hs m = some r) : m ∈ hk := by
  have := getN_isSome x.hs m
  rw [h, wf.ks] at this
  exact of_decide_eq_true this.symm
theorem no_loose41 (so : SOk s hk gk w) (wf : WF s hk gk w x N) (all : ∀ h ∈ hk, whyP s x h ≠ none) (m : Str) : looseX x m ≠ true := fun z => by
  obtain ⟨r, h1, h2⟩ := loose_row41 z
  have hm := key_in41 wf h1
  obtain ⟨r', rows, p, g1, g2, g3, g4⟩ := why_row41 so wf hm
  rw [h1] at g1
  cases g1
  refine all m hm ?_
  rw [g4]
  unfold reasonP
  rw [h2]
theorem stuck_row41 (so : SOk s hk gk w) (wf : WF s hk gk w x N) (all : ∀ h ∈ hk, whyP s x h ≠ none) {h : Str} (hh : h ∈ hk) : ∃ r, getN x.hs h = some r ∧ (whyP s x h = some (Str.ofString "ended") ∨ (whyP s x h = some (Str.ofString "waits") ∧ r.how = .waits)) ∧ (r.how = .waits → r.looks = none) := by
  obtain ⟨r, rows, p, g1, g2, g3, g4⟩ := why_row41 so wf hh
  have nl := no_loose41 so wf all
  have := all h hh
  rw [g4] at this ⊢
  refine ⟨r, g1, ?_⟩
  have row : ∀ u, (if r.row = (rows.length : Int) then some ("ended" : Str) else if r.how = .within ∧ rows[r.row.toNat]? = some .let_ ∧ tieA s x p none = true then some ("ties" : Str) else none) = u → u ≠ none → u = some (Str.ofString "ended") := fun u e ne => by
    split at e
    · exact e.symm
    · split at e
      · rename_i c
        obtain ⟨m, hm⟩ := tieA_loose41 _ _ c.2.2
        exact absurd hm (nl m)
      · exact absurd e.symm ne
  unfold reasonP at this ⊢
  cases hw : r.how with
  | loose =>
    rw [hw] at this
    exact absurd rfl this
  | waits =>
    rw [hw] at this
    dsimp only at this ⊢
    cases hl : r.looks with
    | none => exact ⟨Or.inr ⟨rfl, rfl⟩, fun _ => rfl⟩
    | some l =>
      rw [hl] at this
      dsimp only at this
      split at this
      · rename_i c
        obtain ⟨m, hm⟩ := tieL_loose41 _ _ c.2
        exact absurd hm (nl m)
      · exact absurd rfl this
  | out =>
    rw [hw] at this row
    dsimp only at this ⊢
    exact ⟨Or.inl (row _ rfl this), fun z => by cases z⟩
  | within =>
    rw [hw] at this row
    dsimp only at this ⊢
    exact ⟨Or.inl (row _ rfl this), fun z => by cases z⟩
theorem act_root41 (so : SOk s hk gk w) (wf : WF s hk gk w x N) : ∀ (p : List Str) (m : Str), getN s.paths m = some p → act (hv x.hs) (gv x.gs) m → act (hv x.hs) (gv x.gs) w
  | [], m, hp, a => by rw [← so.tp m hp]; exact a
  | g :: p, m, hp, a => by
    obtain ⟨hg, hgp⟩ := so.st m g p hp
    obtain ⟨r, hr⟩ := key_some wf.gs hg
    have kg := gv_at hr
    refine act_root41 so wf p g hgp (Or.inr ?_)
    rcases wf.co.je.has m g r.holder r.places (up_of hp) a (fun z => by cases z) kg with z | z
    · exact ⟨m, r.places, by rw [kg, z]⟩
    · cases ho : r.holder with
      | some o => exact ⟨o, r.places, by rw [kg, ho]⟩
      | none =>
        rw [ho] at kg
        rw [wf.co.je.bare g _ kg] at z
        cases z
theorem waits_within41 (so : SOk s hk gk w) (wf : WF s hk gk w x N) {h : Str} {r : HR} (hh : h ∈ hk) (hr : getN x.hs h = some r) (hw : r.how = .waits) : inNow x.hs ≠ none := by
  obtain ⟨g, p, hp⟩ := so.ph h hh
  have a : act (hv x.hs) (gv x.gs) h := Or.inl ⟨.waits, by rw [hv_at hr, hw], by decide⟩
  have aw := act_root41 so wf _ _ hp a
  rcases wf.co.lk with ⟨⟨ps, kw⟩, _⟩ | ⟨m, q, hm, _⟩
  · rcases aw with ⟨y, z, _⟩ | ⟨o, qs, z⟩
    · rw [wf.co.je.dj w y z] at kw
      cases kw
    · rw [kw] at z
      cases z
  · obtain ⟨r', h1, h2⟩ := hv_of hm
    unfold inNow
    intro z
    rw [Option.map_eq_none_iff] at z
    have := List.find?_eq_none.mp z (m, r') (mem_getN h1)
    simp [h2] at this
end
/-! ### a short program -/
def Mk (K : PySem.W.Frag) (te : TE) (σ : L2.St) (H0 : Hp) (W N D : Nat) (d : PyData) : Prop := ∀ (H : Hp) (Q : VK), Ex H0 H → (∀ v H', Ex H H' → TD K H' W N D v d → Q v H') → te σ H Q
def Mks (K : PySem.W.Frag) (ta : TA) (σ : L2.St) (H0 : Hp) (W N D : Nat) (ds : List PyData) : Prop := ∀ (H : Hp) (Q : List V → Hp → Prop), Ex H0 H → (∀ vs H', Ex H H' → TDs K H' W N D vs ds → Q vs H') → ta σ H Q
section
variable {K : PySem.W.Frag} {te : TE} {ta : TA} {σ : L2.St} {H0 : Hp} {W N D W' N' D' n i : Nat} {d : PyData} {ds : List PyData} {v : V}
theorem mks_nil : Mks K tNil σ H0 W N D [] := fun H Q e q => tn_raw (q [] H (Ex.refl H) .nil)
theorem mks_cons (a : Mk K te σ H0 W N D d) (b : Mks K ta σ H0 W N D ds) : Mks K (tCons te ta) σ H0 W N D (d :: ds) := fun H Q e q => cons_raw (a H _ e fun v H1 e1 td => b H1 _ (e.trans e1) fun vs H2 e2 tds => q _ H2 (e1.trans e2) (.cons (td.st (ST.ex e2)) tds))
theorem mk_tup (a : Mks K ta σ H0 W N D ds) (hn : ds.length ≤ n) (h1000 : n ≤ 1000) : Mk K (tTup ta) σ H0 (n * W + 10) (n * N + 1) (D + 1) (.tuple ds) := fun H Q e q => tup_raw (a H _ e fun vs H1 e1 tds => ⟨Nat.le_trans (Nat.le_trans (Nat.le_of_eq tds.len) (Nat.le_trans hn h1000)) (by decide), fun p hp => q _ _ (e1.trans (Ex.new hp)) (TDs.tup (tds.st (ST.ex (Ex.new hp))) (st_of upd_same) hn)⟩)
theorem mk_up (a : Mk K te σ H0 W N D d) (h1 : W ≤ W') (h2 : N ≤ N') (h3 : D ≤ D') : Mk K te σ H0 W' N' D' d := fun H Q e q => a H Q e fun v H' e' td => q v H' e' (td.up h1 h2 h3)
theorem mk_lit {s : String} (ha : (s.toList.all fun c => decide (c.toNat < 128)) = true) (hl : s.length ≤ 9) : Mk K (tC (.str (Str.ofString s))) σ H0 100 1 0 (.str (Str.ofString s)) := fun H Q e q => tc_raw (q _ H (Ex.refl H) (td_lit ha hl))
theorem mk_int {i : Int} (h : i.natAbs ≤ 1000000000) : Mk K (tC (.int i)) σ H0 100 1 0 (.int i) := fun H Q e q => tc_raw (q _ H (Ex.refl H) (td_int h))
theorem mk_non : Mk K (tC .non) σ H0 100 1 0 .none := fun H Q e q => tc_raw (q _ H (Ex.refl H) td_non)
theorem mk_var (hσ : σ[i]? = some (some v)) (td : TD K H0 W N D v d) : Mk K (tVar i) σ H0 W N D d := fun H Q e q => ⟨_, hσ, q _ H (Ex.refl H) (td.st (ST.ex e))⟩
def Gs (K : PySem.W.Frag) (H : Hp) (vs : List V) : Prop := ∀ v ∈ vs, ∃ d, TD K H 1560 21 2 v d ∧ progFits d = true
theorem Gs.st {H H' : Hp} {vs : List V} (g : Gs K H vs) (s : ST K H H') : Gs K H' vs := fun v hv => by
  obtain ⟨d, h1, h2⟩ := g v hv
  exact ⟨d, h1.st s, h2⟩
theorem Gs.app {H : Hp} {vs us : List V} (g : Gs K H vs) (g2 : Gs K H us) : Gs K H (vs ++ us) := fun v hv => by
  rcases List.mem_append.mp hv with z | z
  · exact g v z
  · exact g2 v z
theorem gs_of {H : Hp} : ∀ {vs : List V} {ds : List PyData}, TDs K H 1560 21 2 vs ds → (∀ d ∈ ds, progFits d = true) → Gs K H vs
  | _, _, .nil, _ => fun v hv => by cases hv
  | _, _, .cons a t, h => fun v hv => by
    rcases List.mem_cons.mp hv with z | z
    · rw [z]
      exact ⟨_, a, h _ List.mem_cons_self⟩
    · exact gs_of t (fun d hd => h d (List.mem_cons_of_mem _ hd)) v z
end
abbrev takeN57 : PyData := .tuple [.str "take", .none]
abbrev let57 : PyData := .tuple [.str "let"]
abbrev try57 : PyData := .tuple [.str "try"]
abbrev say57 (i : Int) : PyData := .tuple [.str "say", .int i]
section
variable {K : PySem.W.Frag} {σ : L2.St} {H0 : Hp}
theorem mk_takeN : Mk K (tTup (tCons (tC (.str (Str.ofString "take"))) (tCons (tC .non) tNil))) σ H0 310 4 1 takeN57 := mk_up (mk_tup (n := 2) (mks_cons (mk_lit (by decide) (by decide)) (mks_cons mk_non mks_nil)) (by decide) (by decide)) (by decide) (by decide) (by decide)
theorem mk_let : Mk K (tTup (tCons (tC (.str (Str.ofString "let"))) tNil)) σ H0 310 4 1 let57 := mk_up (mk_tup (n := 1) (mks_cons (mk_lit (by decide) (by decide)) mks_nil) (by decide) (by decide)) (by decide) (by decide) (by decide)
theorem mk_try : Mk K (tTup (tCons (tC (.str (Str.ofString "try"))) tNil)) σ H0 310 4 1 try57 := mk_up (mk_tup (n := 1) (mks_cons (mk_lit (by decide) (by decide)) mks_nil) (by decide) (by decide)) (by decide) (by decide) (by decide)
theorem mk_prog {ta : TA} {ds : List PyData} (h : Mks K ta σ H0 310 4 1 ds) (hl : ds.length ≤ 5) : Mk K (tTup ta) σ H0 1560 21 2 (.tuple ds) := mk_tup (n := 5) h hl (by decide)
end
theorem mk_takeL {K : PySem.W.Frag} {σ : L2.St} {H0 : Hp} {j : Nat} {lv : V} {ld : PyData} (hσ : σ[j]? = some (some lv)) (td : TD K H0 100 1 0 lv ld) : Mk K (tTup (tCons (tC (.str (Str.ofString "take"))) (tCons (tVar j) tNil))) σ H0 310 4 1 (.tuple [.str "take", ld]) := mk_up (mk_tup (n := 2) (mks_cons (mk_lit (by decide) (by decide)) (mks_cons (mk_var hσ td) mks_nil)) (by simp) (by decide)) (by decide) (by decide) (by decide)
theorem mk_say1 {K : PySem.W.Frag} {σ : L2.St} {H0 : Hp} : Mk K (tTup (tCons (tC (.str (Str.ofString "say"))) (tCons (tC (.int 1)) tNil))) σ H0 310 4 1 (say57 1) := mk_up (mk_tup (n := 2) (mks_cons (mk_lit (by decide) (by decide)) (mks_cons (mk_int (by decide)) mks_nil)) (by simp) (by decide)) (by decide) (by decide) (by decide)
/-- looks as drawn -/
def Lk41 (ld : PyData) : Prop := ld = .none ∨ ld = .int 0 ∨ ld = .int 2
def tk41 (ld : PyData) : PyData := .tuple [.str "take", ld]
theorem pf41 {ld : PyData} (h : Lk41 ld) : (∀ d ∈ [PyData.tuple [tk41 ld, let57], .tuple [tk41 ld, say57 1, let57, try57, let57]], progFits d = true) ∧ ∀ d ∈ [PyData.tuple [try57, let57], .tuple [tk41 ld], .tuple [], .tuple [tk41 ld, let57, takeN57, let57]], progFits d = true := by
  rcases h with rfl | rfl | rfl
  all_goals
    refine ⟨fun d hd => ?_, fun d hd => ?_⟩
    · simp only [List.mem_cons, List.not_mem_nil, or_false] at hd
      rcases hd with rfl | rfl
      all_goals decide +kernel
    · simp only [List.mem_cons, List.not_mem_nil, or_false] at hd
      rcases hd with rfl | rfl | rfl | rfl
      all_goals decide +kernel
def spShort41 (K : PySem.W.Frag) : Sp := fun vs H Q _ => ∃ (h : Addr) (C : Nat), vs = [.ref h] ∧ Bx H h C ∧ C ≤ 900000 ∧ ∀ v d H', Bx H' h (C + 2) → Kp h h H H' → TD K H' 1560 21 2 v d → progFits d = true → Q v H'
section
variable {P : Program} {w : World} {K : PySem.W.Frag} {mg : Str → Option Value} {base : Heap}
theorem ok__law_short (T : Tp w K mg) : FnOk P w K mg base CX0 3 T.f__law_short T.d__law_short ["_law_box_here"] (spShort41 K) := by
  refine T.F__law_short.ok sc__law_short (fun vs H Q E h => ?_) (fun cdv A outer s H vs Q E hr h => ?_)
  · obtain ⟨h, C, rfl, _⟩ := h
    rfl
  obtain ⟨h, C, rfl, A0, hC, q⟩ := h
  refine ⟨_, (pss_cons (ps_set (i := 1) sc__law_short.nd rfl (Or.inl rfl) (pe_call (ok__law_pick T) (hr.mono (by decide)) rfl T.m__law_pick T.F__law_pick.kp (b__law_pick T) .nil pass0 (pa_cons (pv 0) (pa_cons (pe_lst (pa_cons pe_non (pa_cons pe_non (pa_cons pe_non (pa_cons pe_int (pa_cons pe_int pa_nil (star1 rfl)) (star1 rfl)) (star1 rfl)) (star1 rfl)) (star1 rfl))) pa_nil (star1 rfl)) (star1 rfl)) (by decide) (star1 rfl) (starAll rfl)))
  (pss_cons (ps_set (i := 2) sc__law_short.nd rfl (Or.inl rfl) (pe_lst (pa_cons (pe_tup (pa_cons (pe_tup (pa_cons pe_str (pa_cons (pv 1) pa_nil (star1 rfl)) (star1 rfl))) (pa_cons (pe_tup (pa_cons pe_str pa_nil (star1 rfl))) pa_nil (star1 rfl)) (star1 rfl))) (pa_cons (pe_tup (pa_cons (pe_tup (pa_cons pe_str (pa_cons (pv 1) pa_nil (star1 rfl)) (star1 rfl))) (pa_cons (pe_tup (pa_cons pe_str (pa_cons pe_int pa_nil (star1 rfl)) (star1 rfl))) (pa_cons (pe_tup (pa_cons pe_str pa_nil (star1 rfl))) (pa_cons (pe_tup (pa_cons pe_str pa_nil (star1 rfl))) (pa_cons (pe_tup (pa_cons pe_str pa_nil (star1 rfl))) pa_nil (star1 rfl)) (star1 rfl)) (star1 rfl)) (star1 rfl)) (star1 rfl))) pa_nil (star1 rfl)) (star1 rfl))))
  (pss_cons (ps_set (i := 2) sc__law_short.nd rfl (Or.inl rfl) (pe_op op_cat (pv 2) (pe_lst (pa_cons (pe_tup (pa_cons (pe_tup (pa_cons pe_str pa_nil (star1 rfl))) (pa_cons (pe_tup (pa_cons pe_str pa_nil (star1 rfl))) pa_nil (star1 rfl)) (star1 rfl))) (pa_cons (pe_tup (pa_cons (pe_tup (pa_cons pe_str (pa_cons (pv 1) pa_nil (star1 rfl)) (star1 rfl))) pa_nil (star1 rfl))) (pa_cons (pe_tup pa_nil) (pa_cons (pe_tup (pa_cons (pe_tup (pa_cons pe_str (pa_cons (pv 1) pa_nil (star1 rfl)) (star1 rfl))) (pa_cons (pe_tup (pa_cons pe_str pa_nil (star1 rfl))) (pa_cons (pe_tup (pa_cons pe_str (pa_cons pe_non pa_nil (star1 rfl)) (star1 rfl))) (pa_cons (pe_tup (pa_cons pe_str pa_nil (star1 rfl))) pa_nil (star1 rfl)) (star1 rfl)) (star1 rfl)) (star1 rfl))) pa_nil (star1 rfl)) (star1 rfl)) (star1 rfl)) (star1 rfl)))))
  (pss_one (ps_ret (pe_call (ok__law_pick T) (hr.mono (by decide)) rfl T.m__law_pick T.F__law_pick.kp (b__law_pick T) .nil pass0 (pa_cons (pv 0) (pa_cons (pv 2) pa_nil (star1 rfl)) (star1 rfl)) (by decide) (star1 rfl) (starAll rfl))))))), ?_⟩
  refine q_asgP (call_raw (cons_raw ⟨_, rfl, cons_raw (lst_raw (cons_raw (tc_raw (cons_raw (tc_raw (cons_raw (tc_raw (cons_raw (tc_raw (cons_raw (tc_raw (tn_raw ⟨(by show 5 ≤ sizeLine; decide), fun l0 hl0 => tn_raw ?_⟩))))))))))))⟩))
  have e1 := Ex.new (o := .lst [.non, .non, .non, .int 0, .int 2]) hl0
  have n0 : l0 ≠ h := A0.fresh hl0
  refine ⟨h, l0, _, C, rfl, A0.ex e1, by omega, upd_same, n0, by show 1 ≤ 5; decide, by show 5 ≤ 20000; decide, fun lv H1 hlv A1 k1 => ?_⟩
  have k01 : Kp h h H H1 := (Kp.ex e1).trans k1
  obtain ⟨ld, lk, tl⟩ : ∃ ld, Lk41 ld ∧ ∀ H', TD K H' 100 1 0 lv ld := by
    simp only [List.mem_cons, List.not_mem_nil, or_false] at hlv
    rcases hlv with rfl | rfl | rfl | rfl | rfl
    · exact ⟨.none, Or.inl rfl, fun _ => td_non⟩
    · exact ⟨.none, Or.inl rfl, fun _ => td_non⟩
    · exact ⟨.none, Or.inl rfl, fun _ => td_non⟩
    · exact ⟨.int 0, Or.inr (Or.inl rfl), fun _ => td_int (by decide)⟩
    · exact ⟨.int 2, Or.inr (Or.inr rfl), fun _ => td_int (by decide)⟩
  clear hlv k1 e1 hl0 n0
  obtain ⟨pfA, pfB⟩ := pf41 lk
  -- two programs
  refine q_asgP (lst_raw (mks_cons (W := 1560) (N := 21) (D := 2) (H0 := H1) (mk_prog (mks_cons (mk_takeL rfl (tl _)) (mks_cons mk_let mks_nil)) (by simp)) (mks_cons (mk_prog (mks_cons (mk_takeL rfl (tl _)) (mks_cons mk_say1 (mks_cons mk_let (mks_cons mk_try (mks_cons mk_let mks_nil))))) (by simp)) mks_nil) H1 _ (Ex.refl H1) fun vs7 H7 e7 t7 => ⟨Nat.le_trans (Nat.le_of_eq t7.len) (by show 2 ≤ sizeLine; decide), fun q1 hq1 => ?_⟩))
  have g7 : Gs K H7 vs7 := gs_of t7 pfA
  have l7 := t7.len
  have y7 := Ex.new (o := .lst vs7) hq1
  have v7 : upd H7 q1 (.lst vs7) q1 = some (.lst vs7) := upd_same
  generalize upd H7 q1 (.lst vs7) = H8 at y7 v7 ⊢
  have e18 := e7.trans y7
  have g8 := g7.st (ST.ex y7)
  -- four more
  refine q_asgP (op_raw ⟨_, rfl, lst_raw (mks_cons (W := 1560) (N := 21) (D := 2) (H0 := H8) (mk_prog (mks_cons mk_try (mks_cons mk_let mks_nil)) (by simp)) (mks_cons (mk_prog (mks_cons (mk_takeL rfl (tl _)) mks_nil) (by simp)) (mks_cons (mk_prog mks_nil (by simp)) (mks_cons (mk_prog (mks_cons (mk_takeL rfl (tl _)) (mks_cons mk_let (mks_cons mk_takeN (mks_cons mk_let mks_nil)))) (by simp)) mks_nil))) H8 _ (Ex.refl H8) fun vs9 H9 e9 t9 => ⟨Nat.le_trans (Nat.le_of_eq t9.len) (by show 4 ≤ sizeLine; decide), fun q2 hq2 => ?_⟩)⟩)
  have g9 : Gs K H9 vs9 := gs_of t9 pfB
  have l9 := t9.len
  have y9 := Ex.new (o := .lst vs9) hq2
  have v9 : upd H9 q2 (.lst vs9) q2 = some (.lst vs9) := upd_same
  generalize upd H9 q2 (.lst vs9) = H10 at y9 v9 ⊢
  have e810 := e9.trans y9
  refine ⟨q1, q2, _, _, rfl, rfl, e810 _ _ v7, v9, sz_of (by simp only [List.length_cons, List.length_nil] at l7 l9; omega), fun q3 hq3 => ?_⟩
  have y10 := Ex.new (o := .lst (vs7 ++ vs9)) hq3
  have v10 : upd H10 q3 (.lst (vs7 ++ vs9)) q3 = some (.lst (vs7 ++ vs9)) := upd_same
  have e110 := e18.trans e810
  have n3 : q3 ≠ h := (A1.ex e110).fresh hq3
  generalize upd H10 q3 (.lst (vs7 ++ vs9)) = H11 at y10 v10 ⊢
  have g11 : Gs K H11 (vs7 ++ vs9) := (g8.st (ST.ex (e810.trans y10))).app (g9.st (ST.ex (y9.trans y10)))
  have e111 := e110.trans y10
  have A11 := A1.ex e111
  refine s_retP (call_raw (cons_raw ⟨_, rfl, cons_raw ⟨_, rfl, tn_raw ?_⟩⟩))
  refine ⟨h, q3, vs7 ++ vs9, _, rfl, A11, by omega, v10, n3, by rw [List.length_append, l7]; simp only [List.length_cons, List.length_nil]; omega, by rw [List.length_append, l7, l9]; simp, fun pv H12 hm A12 k12 => ?_⟩
  obtain ⟨pd, tdp, pfp⟩ := g11 pv hm
  exact q pv pd H12 A12 ((k01.trans (Kp.ex e111)).trans k12) (tdp.st (ST.bx A11 k12)) pfp
end
/-! ### who moves, who idles -/
def mv41 (s : Sta) (x : SH) (hs : List Str) : List Str := hs.filter fun h => decide (whyP s x h = none)
def id41 (s : Sta) (x : SH) (hs : List Str) : List Str := hs.filter fun h => decide (whyP s x h ≠ none)
theorem par2_raw40 {i j : Nat} {ta : TA} {tz : TS} {D : Ends} {σ : L2.St} {H : Hp} (h : ta σ H fun vs H1 => ∃ u v, vs = [u, v] ∧ tz D ((σ.set i (some u)).set j (some v)) H1) : tSeq (tPar i j ta) tz D σ H := h
theorem hat_twS41 {K : PySem.W.Frag} {C CD : Addr} {H : Hp} {p : Addr} {v : V} {n : Str} {b : Int} {ms : List Tr} {bk : Addr} {ds : List PyData} {x : SH} {N i : Nat} {σ : L2.St} {E E' : XK} {Q : VK} {m : Str} {tm : TE} (f : HAt K C H p v n b ms bk ds x N) (hm : m ∈ handsOf (.grp n b ms)) (hN : N ≤ 1000) (hσ : Ev (tVar i) σ H (.ref p)) (ht : ∀ H1, Ev tm σ H1 (.str m))
    (q : ∀ u H', HAt K C H' p v n b ms bk ds x N → Ex H H' → EvsV K H' u (stepP (staOf (.grp n b ms) (bookOf ds)) x m).2 → Q u H') : tMeth C (Str.ofString "step") (spStep K CD C) [] E (tMeth C (Str.ofString "twin") (spTwin K C) [] E' (tVar i) tNil) (tCons tm tNil) σ H Q := by
  refine hat_twin f hσ fun p3 H5 f3 f1 e5 np3 => ?_
  have n13 : p ≠ p3 := fun w => n23_40 f e5 np3 w
  obtain ⟨B, rfl, rfl, hs⟩ := f3
  refine ⟨B.p, B.dx, B.fields, rfl, hs.ho.ob, rfl, ht H5 H5 (Ex.refl H5) _ fun H6 e6 => ?_⟩
  refine tn_raw (hat_sp ⟨B, rfl, rfl, hs.ex e6⟩ hm hN fun u H7 _ k7 g7 evs _ _ => ?_)
  exact q u H7 ((f1.ex e6).gd g7 fun o z => k7 _ _ n13 z) (fun c o z => k7 _ _ (fun w => by rw [w, np3] at z; cases z) (e6 _ _ (e5 _ _ z))) evs
def spMov41 (K : PySem.W.Frag) (C : Addr) : Sp := fun vs H Q _ => ∃ (p hl bk : Addr) (v : V) (n : Str) (b : Int) (ms : List Tr) (ds : List PyData) (x : SH) (N : Nat), vs = [.ref p, .ref hl] ∧ HAt K C H p v n b ms bk ds x N ∧ N ≤ 400 ∧ H hl = some (.lst ((handsOf (.grp n b ms)).map V.str)) ∧
  ∀ r m f H', Ex H H' → SqT K H' r [.ref m, .ref f] → H m = none → H' m = some (.lst ((mv41 (staOf (.grp n b ms) (bookOf ds)) x (handsOf (.grp n b ms))).map V.str)) → Dy K H' (.ref f) (.tuple ((id41 (staOf (.grp n b ms) (bookOf ds)) x (handsOf (.grp n b ms))).map (whyD (staOf (.grp n b ms) (bookOf ds)) x))) → Q (.ref r) H'
section
variable {P : Program} {w : World} {K : PySem.W.Frag} {mg : Str → Option Value} {base : Heap}
theorem ok__law_movers (T : Tp w K mg) : FnOk P w K mg base CX0 19 T.f__law_movers T.d__law_movers ["_law_house", "_law_hands"] (spMov41 K T.C_House) := by
  refine T.F__law_movers.ok sc__law_movers (fun vs H Q E h => ?_) (fun cdv A0 outer s0 H vs Q E hr h => ?_)
  · obtain ⟨p, hl, bk, v, n, b, ms, ds, x, N, rfl, _⟩ := h
    rfl
  obtain ⟨p, hl, bk, v, n, b, ms, ds, x, N, rfl, f, hN, h0, q⟩ := h
  refine ⟨_, (pss_cons (ps_par rfl sc__law_movers.nd (i := 2) (j := 3) rfl rfl (by decide) rfl rfl (pa_cons (pe_lst pa_nil) (pa_cons (pe_lst pa_nil) pa_nil (star1 rfl)) (star1 rfl)) (by rfl))
  (pss_cons (ps_for PassesOwn.never rfl (plLK (K := K) rfl (pv 1)) (pg_name (i := 4) sc__law_movers.nd rfl (Or.inl rfl)) (pss_cons (ps_set (i := 5) sc__law_movers.nd rfl (Or.inl rfl) (pe_ix (ixTK (K := K) rfl) (pe_meth (pe_meth0 (pv 0) T.cl_House T.mt_House_twin (ok_House_twin T) (hr.mono (by decide)) (b_House_twin T) .nil pass0) T.cl_House T.mt_House_step (ok_House_step T) (hr.mono (by decide)) (b_House_step T) .nil pass0 (pa_cons (pv 4) pa_nil (star1 rfl)) (star1 rfl) (starAll rfl)) pe_int (fun _ _ => rfl)))
  (pss_one (ps_if (pt_cmpR op_eq (pe_ix (ixTK (K := K) rfl) (pv 5) pe_int (fun _ _ => rfl)) pe_str (nomark _)) (pss_one (ps_expr (pe_bm PySem.F.plainAttrs_list PySem.F.slot_list_append PySem.F.type_list_append mt_append (pv 3) (pa_cons (pe_tup (pa_cons (pv 4) (pa_cons (pe_ix (ixTK (K := K) rfl) (pv 5) pe_int (fun _ _ => rfl)) pa_nil (star1 rfl)) (star1 rfl))) pa_nil (star1 rfl))))) (pss_one (ps_expr (pe_bm PySem.F.plainAttrs_list PySem.F.slot_list_append PySem.F.type_list_append mt_append (pv 2) (pa_cons (pv 4) pa_nil (star1 rfl)))))))))
  (pss_one (ps_ret (pe_tup (pa_cons (pv 2) (pa_cons (pe_callTy (tupleK (K := K) rfl) rfl T.z_tuple (by decide +kernel) (pa_cons (pv 3) pa_nil (star1 rfl)) (by decide) (by decide) (star1 rfl) (starAll rfl)) pa_nil (star1 rfl)) (star1 rfl))))))), ?_⟩
  obtain ⟨s, hs'⟩ : ∃ s, staOf (.grp n b ms) (bookOf ds) = s := ⟨_, rfl⟩
  have szt := f.io.sz
  have hl64 : (handsOf (.grp n b ms)).length ≤ 64 := by
    have := names_len (.grp n b ms)
    rw [List.length_append] at this
    omega
  refine par2_raw40 (cons_raw (lst_raw (tn_raw ⟨(by show 0 ≤ sizeLine; decide), fun m hm0 => cons_raw (lst_raw (tn_raw ⟨(by show 0 ≤ sizeLine; decide), fun fo hf0 => tn_raw ⟨_, _, rfl, ?_⟩⟩))⟩)))
  have e1 := Ex.new (o := .lst []) hm0
  have e2 := e1.trans (Ex.new (o := .lst []) hf0)
  have m2 : upd (upd H m (.lst [])) fo (.lst []) m = some (.lst []) := Ex.new hf0 _ _ upd_same
  have f2 : upd (upd H m (.lst [])) fo (.lst []) fo = some (.lst []) := upd_same
  have nmf : m ≠ fo := fun z => by rw [← z, upd_same] at hf0; cases hf0
  have fH : H fo = none := fresh_back e1 hf0
  have g2 := f.ex e2
  generalize upd (upd H m (.lst [])) fo (.lst []) = H2 at e2 m2 f2 g2 ⊢
  rw [hs'] at q
  refine q_forU ⟨_, rfl, hl, rfl, ⟨_, sq_of (e2 _ _ h0)⟩, ?_⟩
  refine lst_turns47 (K := K) (a := hl) (xs := (handsOf (.grp n b ms)).map V.str) (fun i σ' H' => ∃ (us : List V) (c4 c5 : Option V), σ' = [some (.ref p), some (.ref hl), some (.ref m), some (.ref fo), c4, c5] ∧ Ex H H' ∧ H' m = some (.lst ((mv41 s x ((handsOf (.grp n b ms)).take i)).map V.str)) ∧ H' fo = some (.lst us) ∧ us.length ≤ i ∧ DyAll K H' us ((id41 s x ((handsOf (.grp n b ms)).take i)).map (whyD s x)) ∧ HAt K T.C_House H' p v n b ms bk ds x N) ⟨[], _, _, rfl, e2, m2, f2, Nat.le_refl _, .nil, g2⟩ (fun i σ' H' _ hP => ?_) ?_ ?_
  · obtain ⟨_, _, _, _, e, _⟩ := hP
    exact sq_of (e _ _ h0)
  · rintro i v9 σ' H4 hi ⟨us, c4, c5, rfl, e4, m4, f4, ul, dy4, g4⟩
    obtain ⟨y, hy, rfl⟩ : ∃ y, (handsOf (.grp n b ms))[i]? = some y ∧ V.str y = v9 := by
      rw [List.getElem?_map] at hi
      cases w : (handsOf (.grp n b ms))[i]? with
      | none => rw [w] at hi; cases hi
      | some g => rw [w] at hi; exact ⟨g, rfl, Option.some.inj hi⟩
    have il := (List.getElem?_eq_some_iff.mp hy).1
    have hm := List.mem_of_getElem? hy
    have tk : (handsOf (.grp n b ms)).take (i + 1) = (handsOf (.grp n b ms)).take i ++ [y] := by
      rw [List.take_succ_eq_append_getElem il, (List.getElem?_eq_some_iff.mp hy).2]
    have ml : (mv41 s x ((handsOf (.grp n b ms)).take i)).length ≤ 64 := by
      refine Nat.le_trans (List.length_filter_le _ _) ?_
      rw [List.length_take]
      omega
    refine q_asgP (op_raw (hat_twS41 g4 hm (by omega) (ev_var rfl) (fun _ => ev_var rfl) fun u H5 g5 e5 evs => tc_raw ?_))
    obtain ⟨r, h1, h2, h3'⟩ := hat_row40 g5 hm (by omega)
    obtain ⟨e, es, ht, hc⟩ := why_told h1 h3'
    have ht : (stepP (staOf (.grp n b ms) (bookOf ds)) x y).2 = e :: es := ht
    rw [ht] at evs
    rw [hs'] at hc
    obtain ⟨t8, vs8, rfl, ht8, pd8⟩ := evs
    cases pd8 with
    | @cons u8 us8 _ _ pe pes =>
    refine ⟨t8, _, 0, u8, rfl, rfl, st_of ht8, at_nat (i := 0) rfl, ?_⟩
    have st45 := ST.ex (K := K) e5
    have m5 := e5 _ _ m4
    have f5 := e5 _ _ f4
    have to4 := (whyDs_to40 s x (id41 s x ((handsOf (.grp n b ms)).take i))).1
    rcases hc with ⟨ww, hw, rfl, _⟩ | ⟨hw, z, r', rfl, hz⟩
    · obtain ⟨a9, rfl, hS⟩ := ev_in40 pe
      refine s_ifP (tst_raw (op_raw (op_raw ⟨_, rfl, tc_raw ⟨a9, _, 0, .str (Str.ofString "idle"), rfl, rfl, hS, at_nat (i := 0) rfl, tc_raw ⟨rfl, _, rfl, iteT' rfl ?_⟩⟩⟩)))
      refine s_dropP (bm_rawA40 (ev_var rfl) f5 fun H6 e6 => cons_raw (tup_raw (cons_raw ⟨_, rfl, cons_raw (op_raw ⟨_, rfl, tc_raw ⟨a9, _, 2, .str ww, rfl, rfl, ex_t e6 hS, at_nat (i := 2) rfl, tn_raw ⟨(by show 2 ≤ sizeLine; decide), fun pt hpt => tn_raw ?_⟩⟩⟩)⟩)))
      have e7 := e6.trans (Ex.new (o := .tup [.str y, .str ww]) hpt)
      have pt7 : upd H6 pt (.tup [.str y, .str ww]) pt = some (.tup [.str y, .str ww]) := upd_same
      generalize upd H6 pt (.tup [.str y, .str ww]) = H7 at e7 pt7 ⊢
      have f7 := e7 _ _ f5
      refine ⟨fo, us, .ref pt, rfl, rfl, f7, sz_lt (by omega), ?_⟩
      have mvE : mv41 s x ((handsOf (.grp n b ms)).take (i + 1)) = mv41 s x ((handsOf (.grp n b ms)).take i) := by
        unfold mv41
        rw [tk, List.filter_append]
        simp [hw]
      have idE : id41 s x ((handsOf (.grp n b ms)).take (i + 1)) = id41 s x ((handsOf (.grp n b ms)).take i) ++ [y] := by
        unfold id41
        rw [tk, List.filter_append]
        simp [hw]
      refine ⟨us ++ [.ref pt], _, _, rfl, Ex.mut (e4.trans (e5.trans e7)) fH, by rw [upd_ne nmf, mvE]; exact e7 _ _ m5, upd_same, by rw [List.length_append]; simp; exact ul, ?_, (g5.ex e7).lst f7⟩
      rw [idE, List.map_append]
      have wE : whyD s x y = .tuple [.str y, .str ww] := by unfold whyD; rw [hw]; rfl
      refine dya_snoc40 ?_ (dya_st (st45.trans ((ST.ex e7).trans (ST.lst f7))) _ _ to4 dy4)
      rw [wE]
      exact .tup (Or.inl (Or.inl (by rw [upd_ne (fun z => by rw [z, f7] at pt7; cases pt7)]; exact pt7))) (.cons (.str _) (.cons (.str _) .nil))
    · obtain ⟨a9, zs, rfl, hS⟩ := ev_head40 pe
      refine s_ifP (tst_raw (op_raw (op_raw ⟨_, rfl, tc_raw ⟨a9, _, 0, .str z, rfl, rfl, hS, at_nat (i := 0) rfl, tc_raw ⟨rfl, _, rfl, iteF' (decide_eq_false fun y => hz (V.str.inj y)) ?_⟩⟩⟩)))
      refine s_dropP (bm_rawA40 (ev_var rfl) m5 fun H6 e6 => cons_raw ⟨_, rfl, tn_raw ?_⟩)
      have m6 := e6 _ _ m5
      refine ⟨m, _, .str y, rfl, rfl, m6, sz_lt (by rw [List.length_map]; omega), ?_⟩
      have mvE : mv41 s x ((handsOf (.grp n b ms)).take (i + 1)) = mv41 s x ((handsOf (.grp n b ms)).take i) ++ [y] := by
        unfold mv41
        rw [tk, List.filter_append]
        simp [hw]
      have idE : id41 s x ((handsOf (.grp n b ms)).take (i + 1)) = id41 s x ((handsOf (.grp n b ms)).take i) := by
        unfold id41
        rw [tk, List.filter_append]
        simp [hw]
      refine ⟨us, _, _, rfl, Ex.mut (e4.trans (e5.trans e6)) hm0, by rw [upd_same, mvE, List.map_append]; rfl, by rw [upd_ne (Ne.symm nmf)]; exact e6 _ _ f5, by omega, ?_, (g5.ex e6).lst m6⟩
      rw [idE]
      exact dya_st (st45.trans ((ST.ex e6).trans (ST.lst m6))) _ _ to4 dy4
  rintro σ' H4 ⟨us, c4, c5, rfl, e4, m4, f4, ul, dy4, g4⟩
  rw [List.length_map] at ul
  rw [List.length_map, List.take_length] at m4 dy4
  refine s_retP (tup_raw (cons_raw ⟨_, rfl, cons_raw (cb_raw (cons_raw ⟨_, rfl, tn_raw ⟨fo, us, rfl, Or.inl ⟨sq_of f4, fun t ht => tn_raw ⟨(by show 2 ≤ sizeLine; decide), fun r hr' => ?_⟩⟩⟩⟩))⟩))
  have e6 := (Ex.new (o := .tup us) ht).trans (Ex.new (o := .tup [.ref m, .ref t]) hr')
  have t6 := Ex.new (o := .tup [.ref m, .ref t]) hr' _ _ (upd_same (H := H4) (a := t) (o := .tup us))
  exact q r m t _ (e4.trans e6) (st_of upd_same) hm0 (e6 _ _ m4) (.tup (st_of t6) (dya_st (ST.ex e6) _ _ (whyDs_to40 s x _).1 dy4))
end
/-! ### stuck tells what is so -/
theorem sl_raw41 {r : V → Option Int → Option Int → Hp → VK → Prop} {te : TE} {tl th : TO} {σ : L2.St} {H : Hp} {Q : VK} (h : te σ H fun x H1 => tl σ H1 fun l H2 => th σ H2 fun u H3 => r x l u H3 Q) : tSl r te tl th σ H Q := h
theorem part_raw41 {t : TE} {σ : L2.St} {H : Hp} {Q : Option Int → Hp → Prop} (h : t σ H fun x H1 => ∃ i, x = .int i ∧ Q (some i) H1) : tPart t σ H Q := h
theorem tup_turns41 {K : PySem.W.Frag} {a : Addr} {xs : List V} {g : TG} {tb tz : TS} {D : Ends} {σ : L2.St} {H : Hp} (Pv : Nat → L2.St → Hp → Prop) (h0 : Pv 0 σ H) (hl : ∀ i σ H, i ≤ xs.length → Pv i σ H → SqT K H a xs)
    (hs : ∀ i x σ' H', xs[i]? = some x → Pv i σ' H' → g x σ' H' fun σ2 H2 => tb { D with nx := Pv (i + 1), ct := Pv (i + 1), bk := tz D } σ2 H2) (hd : ∀ σ' H', Pv xs.length σ' H' → tz D σ' H') :
    ∃ W : Nat → Nat → L2.St → Hp → Prop, (∃ m, W 0 m σ H) ∧ ∀ i m σ H, W i m σ H →
    ((Itt K a).stop i H ∧ tz D σ H) ∨ ((Itt K a).go i H ∧ ∃ N : L2.St → Hp → Prop, (∀ σ' H', N σ' H' → ∃ m', m' < m ∧ W (i + 1) m' σ' H') ∧ ∀ x H', (Itt K a).yld i H x H' → g x σ H' fun σ2 H2 => tb { D with nx := N, ct := N, bk := tz D } σ2 H2) :=
  for_tup (K := K) (a := a) (xs := xs) (D := { D with nx := tz D }) Pv h0 hl hs hd
theorem whys_ok41 (s : Sta) (x : SH) {hs : List Str} (hl : hs.length ≤ 64) : tupOnly (.tuple (hs.map (whyD s x))) = true ∧ lensOk (.tuple (hs.map (whyD s x))) = true ∧ PyData.depth (.tuple (hs.map (whyD s x))) ≤ 4 := by
  obtain ⟨t1, t2, t3⟩ := whyDs_to40 s x hs
  refine ⟨t1, ?_, ?_⟩
  · show (decide ((hs.map (whyD s x)).length ≤ 100000) && lensOks (hs.map (whyD s x))) = true
    rw [t2, decide_eq_true (by rw [List.length_map]; omega)]
    rfl
  · show PyData.depthAll (hs.map (whyD s x)) + 1 ≤ 4
    omega
theorem filt41 {α : Type} {f : α → Bool} {xs : List α} {i : Nat} {x : α} (h : xs[i]? = some x) : (xs.take (i + 1)).filter f = (xs.take i).filter f ++ (if f x = true then [x] else []) := by
  have hi := (List.getElem?_eq_some_iff.mp h).1
  rw [List.take_succ_eq_append_getElem hi, (List.getElem?_eq_some_iff.mp h).2, List.filter_append]
  congr 1
  by_cases e : f x = true
  · simp [e]
  · simp [e]
theorem orV_raw41 {ta tb : TE} {σ : L2.St} {H : Hp} {Q : VK} (h : ta σ H fun x H1 => ∃ c, x = .bl c ∧ if c = true then Q (.bl true) H1 else tb σ H1 Q) : tOrV ta tb σ H Q := h
theorem hw_ne41 {K : PySem.W.Frag} {H : Hp} {t : Addr} {r : HR} (h : SqT K H t [.str r.how.str, optI r.looks]) (n : r.how = .waits → r.looks = none) : ∃ d, Dp K H (.ref t) d ∧ SeqAt.shaped d = true ∧ PyData.eqv d (.tuple [.str "waits", .int 0]) = false := by
  cases hl : r.looks with
  | none =>
    rw [hl] at h
    refine ⟨.tuple [.str r.how.str, .none], .tup h (.cons (.str _) (.cons .non .nil)), ?_, ?_⟩
    · cases r.how <;> decide +kernel
    · cases r.how <;> decide +kernel
  | some l =>
    rw [hl] at h
    refine ⟨.tuple [.str r.how.str, .int l], .tup h (.cons (.str _) (.cons (.int l) .nil)), ?_, ?_⟩
    · unfold SeqAt.shaped
      rw [Bool.and_eq_true]
      refine ⟨?_, by cases r.how <;> rfl⟩
      show (PyData.strOk r.how.str && (true && true)) = true
      cases r.how <;> decide +kernel
    · cases hh : r.how with
      | waits =>
        rw [n hh] at hl
        cases hl
      | _ => rfl
theorem idle_x41 {s : Sta} {x : SH} {h : Str} {r : HR} {w : Str} (hr : getN x.hs h = some r) (hw : whyP s x h = some w) : stepP s x h = (x, [.tuple [.str "idle", .str h, .str w]]) := by
  unfold whyP at hw
  unfold stepP drafted
  rw [hr] at hw ⊢
  dsimp only at hw ⊢
  cases hd : doHow s (draftOf x) h r with
  | mk d o =>
    rw [hd] at hw
    dsimp only at hw
    subst hw
    rfl
def spRight41 (K : PySem.W.Frag) (C : Addr) : Sp := fun vs H Q _ => ∃ (p hl bk : Addr) (v : V) (n : Str) (b : Int) (ms : List Tr) (ds : List PyData) (x : SH) (N : Nat), vs = [.ref p, .ref hl] ∧ HAt K C H p v n b ms bk ds x N ∧ N ≤ 300 ∧ (handsOf (.grp n b ms)).length ≤ 10 ∧ H hl = some (.lst ((handsOf (.grp n b ms)).map V.str)) ∧
  ∀ N' H', HAt K C H' p v n b ms bk ds x N' → N' ≤ N + 10 → (∀ c o, c ≠ p → H c = some o → H' c = some o) → Q (.bl true) H'
section
variable {P : Program} {w : World} {K : PySem.W.Frag} {mg : Str → Option Value} {base : Heap}
theorem ok__law_right (T : Tp w K mg) : FnOk P w K mg base CX0 20 T.f__law_right T.d__law_right ["_law_house", "_law_hands"] (spRight41 K T.C_House) := by
  refine T.F__law_right.ok sc__law_right (fun vs H Q E h => ?_) (fun cdv A0 outer s0 H vs Q E hr h => ?_)
  · obtain ⟨p, hl, bk, v, n, b, ms, ds, x, N, rfl, _⟩ := h
    rfl
  obtain ⟨p, hl, bk, v, n, b, ms, ds, x, N, rfl, f, hN, h10, h0, q⟩ := h
  refine ⟨_, (pss_cons (ps_asg (pe_call (ok__law_movers T) (hr.mono (by decide)) rfl T.m__law_movers T.F__law_movers.kp (b__law_movers T) .nil pass0 (pa_cons (pv 0) (pa_cons (pv 1) pa_nil (star1 rfl)) (star1 rfl)) (by decide) (star1 rfl) (starAll rfl)) (pg_tup rfl (pgs_cons (pg_name (i := 2) sc__law_right.nd rfl (Or.inl rfl)) (pgs_cons (pg_name (i := 3) sc__law_right.nd rfl (Or.inl rfl)) pgs_nil))))
  (pss_cons (ps_par rfl sc__law_right.nd (i := 4) (j := 5) rfl rfl (by decide) rfl rfl (pa_cons (pe_meth0 (pv 0) T.cl_House T.mt_House_twin (ok_House_twin T) (hr.mono (by decide)) (b_House_twin T) .nil pass0) (pa_cons (pe_call (ok_stuck T) (hr.mono (by decide)) rfl T.m_stuck T.F_stuck.kp (b_stuck T) .nil pass0 (pa_cons (pv 0) pa_nil (star1 rfl)) (by decide) (star1 rfl) (starAll rfl)) pa_nil (star1 rfl)) (star1 rfl)) (by rfl))
  (pss_cons (ps_if (pt_cmpR (neL0K (K := K) rfl (hu_e hr)) (pv 2) (pe_lst pa_nil) (nomark _)) (pss_one (ps_ret (pe_and (pe_cmp (pc_isN (pv 5))) (pe_and (pe_cmp (pc_isN (pe_call (ok_stuck T) (hr.mono (by decide)) rfl T.m_stuck T.F_stuck.kp (b_stuck T) .nil pass0 (pa_cons (pv 0) pa_nil (star1 rfl)) (by decide) (star1 rfl) (starAll rfl)))) (pe_one (pe_cmpR (own_eq (ok_House___eq__ T) T.mt_House___eq__.at_ T.mt_House___eq__.fn (hr.mono (by decide)) (b_House___eq__ T) pass0) (pv 0) (pv 4) (nomark _))))))) pss_nil)
  (pss_cons (ps_if (PW.pt (pw_or (pt_not (pt_val (pe_call (ok__law_alike T) (hr.mono (by decide)) rfl T.m__law_alike T.F__law_alike.kp (b__law_alike T) .nil pass0 (pa_cons (pv 5) (pa_cons (pv 3) pa_nil (star1 rfl)) (star1 rfl)) (by decide) (star1 rfl) (starAll rfl)))) (pw_or1 (pt_not (pt_val (pe_call (ok__law_alike T) (hr.mono (by decide)) rfl T.m__law_alike T.F__law_alike.kp (b__law_alike T) .nil pass0 (pa_cons (pe_call (ok_stuck T) (hr.mono (by decide)) rfl T.m_stuck T.F_stuck.kp (b_stuck T) .nil pass0 (pa_cons (pv 0) pa_nil (star1 rfl)) (by decide) (star1 rfl) (starAll rfl)) (pa_cons (pv 3) pa_nil (star1 rfl)) (star1 rfl)) (by decide) (star1 rfl) (starAll rfl))))))) (pss_one (ps_ret pe_bl)) pss_nil)
  (pss_cons (ps_for PassesOwn.never rfl (piTK (K := K) rfl (pv 5)) (pg_tup rfl (pgs_cons (pg_name (i := 6) sc__law_right.nd rfl (Or.inl rfl)) (pgs_cons (pg_name (i := 7) sc__law_right.nd rfl (Or.inl rfl)) pgs_nil))) (pss_cons (ps_if (PW.pt (pw_or (pt_cmpR (notInSK (K := K) rfl) (pv 7) (pe_tup (pa_cons pe_str (pa_cons pe_str pa_nil (star1 rfl)) (star1 rfl))) (by with_unfolding_all rfl)) (pw_or1 (pt_cmpR (eqDK (K := K) rfl (hu_e64' hr)) (pe_slice (slAK (K := K) rfl) (pe_meth (pv 0) T.cl_House T.mt_House_hand (ok_House_hand T) (hr.mono (by decide)) (b_House_hand T) .nil pass0 (pa_cons (pv 6) pa_nil (star1 rfl)) (star1 rfl) (starAll rfl)) (po_some pe_int) po_none) (pe_tup (pa_cons pe_str (pa_cons pe_int pa_nil (star1 rfl)) (star1 rfl))) (nomark _))))) (pss_one (ps_ret pe_bl)) pss_nil)
  (pss_one (ps_if (PW.pt (pw_or (pt_cmpR (neDK (K := K) rfl (hu_e64' hr)) (pe_meth (pv 0) T.cl_House T.mt_House_step (ok_House_step T) (hr.mono (by decide)) (b_House_step T) .nil pass0 (pa_cons (pv 6) pa_nil (star1 rfl)) (star1 rfl) (starAll rfl)) (pe_tup (pa_cons (pe_tup (pa_cons pe_str (pa_cons (pv 6) (pa_cons (pv 7) pa_nil (star1 rfl)) (star1 rfl)) (star1 rfl))) pa_nil (star1 rfl))) (nomark _)) (pw_or1 (pt_cmpR (own_ne (ok_House___eq__ T) T.mt_House___eq__.at_ T.mt_House___eq__.fn T.ic_mro T.in_House (hr.mono (by decide)) (hu_e1 hr) (b_House___eq__ T) pass0) (pv 0) (pv 4) (nomark _))))) (pss_one (ps_ret pe_bl)) pss_nil))))
  (pss_cons (ps_setLc (i := 8) (own := [("_law_name", 6), ("_law_reason", 7)]) (g := gTup K 2 (gCons (gName 6) (gCons (gName 7) gNil))) rfl sc__law_right.nd rfl rfl (sw_true rfl rfl rfl (by decide +kernel)) (piTK (K := K) rfl (pv 5)) (blkOk_by (N := N__law_right) (sc := defScope s__law_right) (by decide +kernel)) (fun _ _ _ _ _ => (pg_tup rfl (pgs_cons (pg_name (i := 6) sc__law_right.nd rfl (Or.inl rfl)) (pgs_cons (pg_name (i := 7) sc__law_right.nd rfl (Or.inl rfl)) pgs_nil)))) (fun _ _ _ _ _ => (pts_one (pt_cmpR op_eq (pv 7) pe_str (nomark _)))) (fun _ _ _ _ _ => (pv 6)))
  (pss_one (ps_ret (pe_or (pe_cmpR (eqL0K (K := K) rfl (hu_e hr)) (pv 8) (pe_lst pa_nil) (nomark _)) (pe_one (pe_cmp (pc_notN (pe_meth0 (pv 0) T.cl_House T.mt_House_within (ok_House_within T) (hr.mono (by decide)) (b_House_within T) .nil pass0))))))))))))), ?_⟩
  have so := f.so
  have wf := f.wf
  have hb : H hl = some (.lst ((handsOf (.grp n b ms)).map V.str)) := h0
  refine q_asgG (call_raw (cons_raw ⟨_, rfl, cons_raw ⟨_, rfl, tn_raw ⟨p, hl, bk, v, n, b, ms, ds, x, N, rfl, f, by omega, h0, fun r m fo H1 e1 hr1 nm m1 dy1 => ⟨r, _, rfl, hr1, rfl, _, _, rfl, _, _, rfl, rfl, ?_⟩⟩⟩⟩))
  have f := f.ex e1
  by_cases anyN : ∃ h ∈ handsOf (.grp n b ms), whyP (staOf (.grp n b ms) (bookOf ds)) x h = none
  · -- one moves
    refine par2_raw40 (cons_raw (hat_twin f (ev_var rfl) fun p2 H2 f2 f e2 np2 => cons_raw (call_raw (cons_raw ⟨_, rfl, tn_raw (hat_stuck40 f (by omega) (fun _ H3 e3 => tn_raw ⟨_, _, rfl, ?_⟩) fun hall => absurd anyN fun ⟨h, hh, hw⟩ => hall h hh hw)⟩))))
    have e23 := e2.trans e3
    refine q_ifQ ((et_test (ev_eqL0 (f := not) (ev_var rfl) (sq_of (e23 _ _ m1)))) H3 (Ex.refl H3) _ fun H4 e4 => iteT' ?_ ?_)
    · obtain ⟨h, hh, hw⟩ := anyN
      have : h ∈ mv41 (staOf (.grp n b ms) (bookOf ds)) x (handsOf (.grp n b ms)) := List.mem_filter.mpr ⟨hh, decide_eq_true hw⟩
      cases hz : mv41 (staOf (.grp n b ms) (bookOf ds)) x (handsOf (.grp n b ms)) with
      | nil => rw [hz] at this; cases this
      | cons _ _ => rfl
    have f := (f.ex e3).ex e4
    have f2 := (f2.ex e3).ex e4
    refine ret_raw40 (andV_raw (isN_raw ⟨_, rfl, _, rfl, iteT' rfl (andV_raw (isN_raw (call_raw (cons_raw ⟨_, rfl, tn_raw (hat_stuck40 f (by omega) (fun _ H5 e5 => ⟨_, rfl, iteT' rfl (op_raw ⟨_, rfl, _, rfl, hat_eq40 (f.ex e5) (f2.ex e5) (by omega) fun H6 e6 => ?_⟩)⟩) fun hall => absurd anyN fun ⟨h, hh, hw⟩ => hall h hh hw)⟩))))⟩))
    have e16 := e1.trans (e23.trans (e4.trans (e5.trans e6)))
    exact q N H6 ((f.ex e5).ex e6) (by omega) fun c o _ z => e16 _ _ z
  -- all idle
  have all : ∀ h ∈ handsOf (.grp n b ms), whyP (staOf (.grp n b ms) (bookOf ds)) x h ≠ none := fun h hh hw => anyN ⟨h, hh, hw⟩
  have mvE : mv41 (staOf (.grp n b ms) (bookOf ds)) x (handsOf (.grp n b ms)) = [] := List.filter_eq_nil_iff.mpr fun h hh => by simp [all h hh]
  have idE : id41 (staOf (.grp n b ms) (bookOf ds)) x (handsOf (.grp n b ms)) = handsOf (.grp n b ms) := List.filter_eq_self.mpr fun h hh => by simp [all h hh]
  rw [mvE] at m1
  rw [idE] at dy1
  obtain ⟨t1, t2, t3⟩ := whys_ok41 (staOf (.grp n b ms) (bookOf ds)) x (hs := handsOf (.grp n b ms)) (by omega)
  refine par2_raw40 (cons_raw (hat_twin f (ev_var rfl) fun p2 H2 f2 f e2 np2 => cons_raw (call_raw (cons_raw ⟨_, rfl, tn_raw (hat_stuck40 f (by omega) (fun z => absurd z anyN) fun _ a H3 e3 dya => tn_raw ⟨_, _, rfl, ?_⟩)⟩))))
  have n12 : p ≠ p2 := fun w => by
    obtain ⟨_, _, z⟩ := (show HAt K T.C_House H1 p v n b ms bk ds x N from by assumption).ob
    rw [w, np2] at z
    cases z
  have f := f.ex e3
  have f2 := f2.ex e3
  have e13 := e2.trans e3
  refine q_ifQ ((et_test (ev_eqL0 (f := not) (ev_var rfl) (sq_of (e13 _ _ m1)))) H3 (Ex.refl H3) _ fun H4 e4 => iteF' rfl ?_)
  have dyf := dy_mono (e13.trans e4) dy1
  have dya := dy_mono e4 dya
  have f := f.ex e4
  have f2 := f2.ex e4
  refine q_ifQ (or_raw (not_raw (tB_raw (call_raw (cons_raw ⟨_, rfl, cons_raw ⟨_, rfl, tn_raw ⟨.ref a, .ref fo, _, rfl, dya, dyf, t1, t2, t3, fun H5 e5 => ⟨_, rfl, iteF' rfl ?_⟩⟩⟩⟩)))))
  refine not_raw (tB_raw (call_raw (cons_raw (call_raw (cons_raw ⟨_, rfl, tn_raw (hat_stuck40 (f.ex e5) (by omega) (fun z => absurd z anyN) fun _ a2 H6 e6 dy6 => cons_raw ⟨_, rfl, tn_raw ⟨.ref a2, .ref fo, _, rfl, dy6, dy_mono (e5.trans e6) dyf, t1, t2, t3, fun H7 e7 => ⟨_, rfl, iteF' rfl ?_⟩⟩⟩)⟩)))))
  have e47 := e5.trans (e6.trans e7)
  have e17 := e13.trans (e4.trans e47)
  have f := f.ex e47
  have f2 := f2.ex e47
  have dya := dy_mono e47 dya
  clear dyf dy1 m1 mvE idE e47 e13 e4 e5 e6 e7 e2 e3 hr1 nm
  have e07 := e1.trans e17
  -- row by row
  obtain ⟨a', us, ea, sqa, dyu⟩ : ∃ a' us, V.ref a = .ref a' ∧ SqT K H7 a' us ∧ DyAll K H7 us ((handsOf (.grp n b ms)).map (whyD (staOf (.grp n b ms) (bookOf ds)) x)) := by
    cases dya with
    | tup h1 h2 => exact ⟨_, _, rfl, h1, h2⟩
  cases ea
  have ul : us.length = (handsOf (.grp n b ms)).length := by
    have := dya_ln dyu
    rw [List.length_map] at this
    exact this
  refine q_forU ⟨_, rfl, a, rfl, ⟨_, sqa⟩, ?_⟩
  refine tup_turns41 (K := K) (a := a) (xs := us) (fun i σ' H' => ∃ (c6 c7 c8 : Option V), σ' = [some (.ref p), some (.ref hl), some (.ref m), some (.ref fo), some (.ref p2), some (.ref a), c6, c7, c8] ∧ HAt K T.C_House H' p v n b ms bk ds x (N + i) ∧ HAt K T.C_House H' p2 v n b ms bk ds x N ∧ ∀ c o, c ≠ p → H7 c = some o → H' c = some o) ⟨_, _, _, rfl, f, f2, fun c o _ z => z⟩ (fun i σ' H' _ hP => ?_) ?_ ?_
  · obtain ⟨_, _, _, _, _, _, k⟩ := hP
    exact st_step40 f k _ _ sqa
  · rintro i u σ' H8 hi ⟨c6, c7, c8, rfl, g1, g2, k8⟩
    obtain ⟨y, hy, ai, rfl, sqi⟩ := why_at40 dyu hi
    have il := (List.getElem?_eq_some_iff.mp hy).1
    have hm := List.mem_of_getElem? hy
    have st78 := st_step40 (f := f) (k := k8)
    refine ⟨ai, _, rfl, st78 _ _ sqi, rfl, _, _, rfl, _, _, rfl, rfl, ?_⟩
    obtain ⟨r, hr', rsn, rw'⟩ := stuck_row41 so wf all hm
    obtain ⟨ww, hw, wE⟩ : ∃ ww, whyP (staOf (.grp n b ms) (bookOf ds)) x y = some ww ∧ (ww = Str.ofString "ended" ∨ ww = Str.ofString "waits") := by
      rcases rsn with z | ⟨z, _⟩
      · exact ⟨_, z, Or.inl rfl⟩
      · exact ⟨_, z, Or.inr rfl⟩
    rw [hw]
    refine q_ifQ (or_raw (tst_raw (op_raw ⟨_, rfl, tup_raw (cons_raw (tc_raw (cons_raw (tc_raw (tn_raw ⟨(by show 2 ≤ sizeLine; decide), fun t ht => ?_⟩)))))⟩)))
    have e9 := Ex.new (o := .tup [.str (Str.ofString "ended"), .str (Str.ofString "waits")]) ht
    refine ⟨t, _, rfl, Or.inr (st_of upd_same), rfl, rfl, _, rfl, ?_⟩
    generalize upd H8 t (.tup [.str (Str.ofString "ended"), .str (Str.ofString "waits")]) = H9 at e9 ⊢
    refine iteF' (by rcases wE with rfl | rfl <;> rfl) ?_
    refine tst_raw (op_raw (sl_raw41 (hat_hand (g1.ex e9) hr' (ev_var rfl) (fun _ _ => ev_var rfl) fun u9 H10 e10 hv => part_raw41 (tc_raw ⟨2, rfl, no_raw ?_⟩))))
    obtain ⟨th, rfl, sth⟩ := hv
    refine slA_cut sth fun tc H11 e11 stc => tup_raw (cons_raw (tc_raw (cons_raw (tc_raw (tn_raw ⟨(by show 2 ≤ sizeLine; decide), fun tw htw => ?_⟩)))))
    have e12 := e11.trans (Ex.new (o := .tup [.str (Str.ofString "waits"), .int 0]) htw)
    obtain ⟨d, dp1, sh1, ne1⟩ := hw_ne41 (ex_t (Ex.new (o := .tup [.str (Str.ofString "waits"), .int 0]) htw) stc) rw'
    refine ⟨d, .tuple [.str "waits", .int 0], dp1, .tup (st_of upd_same) (.cons (.str _) (.cons (.int 0) .nil)), sh1, by decide +kernel, ?_⟩
    rw [ne1]
    refine ⟨_, rfl, iteF' rfl ?_⟩
    generalize upd H11 tw (.tup [.str (Str.ofString "waits"), .int 0]) = H12 at e12 ⊢
    have e812 := e9.trans (e10.trans e12)
    have g1 := g1.ex e812
    have g2 := g2.ex e812
    -- it idles
    refine s_ifP (or_raw (tst_raw (op_raw (hat_rec g1 (ev_var rfl) fun H13 e13 => cons_raw ⟨_, rfl, tn_raw (hat_sp (g1.ex e13) hm (by omega) fun u H14 g1 k14 gd14 evs evz _ => ?_)⟩))))
    rw [idle_x41 hr' hw] at g1 evs evz
    have g2 := (g2.ex e13).gd gd14 fun o z => k14 _ _ (Ne.symm n12) z
    have sh3 := evs_shaped evz
    refine tup_raw (cons_raw (tup_raw (cons_raw (tc_raw (cons_raw ⟨_, rfl, cons_raw ⟨_, rfl, tn_raw ⟨(by show 3 ≤ sizeLine; decide), fun t5 ht5 => tn_raw ⟨(by show 1 ≤ sizeLine; decide), fun t6 ht6 => ?_⟩⟩⟩⟩)))))
    have e15 := (Ex.new (o := .tup [.str (Str.ofString "idle"), .str y, optS (some ww)]) ht5).trans (Ex.new (o := .tup [.ref t5]) ht6)
    refine ⟨_, _, dp_mono e15 (EvsV.dp evs), .tup (st_of upd_same) (.cons (.tup (st_of (Ex.new ht6 _ _ upd_same)) (.cons (.str _) (.cons (.str _) (.cons (.str _) .nil)))) .nil), sh3, sh3, ?_⟩
    rw [SeqAt.eqv_refl _ (SeqAt.canLay_of_shaped sh3)]
    refine ⟨_, rfl, iteF' rfl ?_⟩
    generalize upd (upd H14 t5 (.tup [.str (Str.ofString "idle"), .str y, optS (some ww)])) t6 (.tup [.ref t5]) = H15 at e15 ⊢
    refine tst_raw (op_raw ⟨_, rfl, _, rfl, hat_eq40 (g := not) (g1.ex e15) (g2.ex e15) (by omega) fun H16 e16 => ⟨_, rfl, iteF' rfl (nx_tn ?_)⟩⟩)
    exact ⟨_, _, _, rfl, (g1.ex e15).ex e16, (g2.ex e15).ex e16, fun c o ne z => e16 _ _ (e15 _ _ (k14 _ _ ne (e13 _ _ (e812 _ _ (k8 _ _ ne z)))))⟩
  rintro σ' H8 ⟨c6, c7, c8, rfl, g1, g2, k8⟩
  have st78 := st_step40 (f := f) (k := k8)
  have sq8 := st78 _ _ sqa
  refine q_asgP ⟨_, rfl, a, rfl, ⟨_, sq8⟩, fun D hD => ?_⟩
  refine lc_tup (K := K) (a := a) (xs := us) (fun i H' => Ex H8 H' ∧ H' D = some (.lst ((((handsOf (.grp n b ms)).take i).filter fun h => decide (whyP (staOf (.grp n b ms) (bookOf ds)) x h = some (Str.ofString "waits"))).map V.str))) ⟨Ex.new hD, upd_same⟩ (fun i H' _ hP => ex_t hP.1 sq8) ?_ ?_
  · rintro i u H9 hi ⟨e9, hacc⟩
    obtain ⟨y, hy, ai, rfl, sqi⟩ := why_at40 dyu hi
    have il := (List.getElem?_eq_some_iff.mp hy).1
    have hm := List.mem_of_getElem? hy
    refine ⟨ai, _, rfl, ex_t e9 (st78 _ _ sqi), rfl, _, _, rfl, _, _, rfl, rfl, rfl, tst_raw (op_raw ⟨_, rfl, tc_raw ⟨by cases whyP (staOf (.grp n b ms) (bookOf ds)) x y <;> rfl, _, rfl, ?_⟩⟩)⟩
    have tk := filt41 (f := fun h => decide (whyP (staOf (.grp n b ms) (bookOf ds)) x h = some (Str.ofString "waits"))) hy
    have sl : (((handsOf (.grp n b ms)).take i).filter fun h => decide (whyP (staOf (.grp n b ms) (bookOf ds)) x h = some (Str.ofString "waits"))).length ≤ 64 := by
      refine Nat.le_trans (List.length_filter_le _ _) ?_
      rw [List.length_take]
      omega
    have eqT : decide (optS (whyP (staOf (.grp n b ms) (bookOf ds)) x y) = V.str (Str.ofString "waits")) = decide (whyP (staOf (.grp n b ms) (bookOf ds)) x y = some (Str.ofString "waits")) := by
      cases hw : whyP (staOf (.grp n b ms) (bookOf ds)) x y with
      | none => rfl
      | some z =>
        by_cases e : z = Str.ofString "waits"
        · rw [e]
          rfl
        · rw [decide_eq_false (show ¬ some z = some (Str.ofString "waits") from fun y => e (Option.some.inj y))]
          exact decide_eq_false (show ¬ V.str z = V.str (Str.ofString "waits") from fun y => e (V.str.inj y))
    rw [eqT]
    by_cases h : whyP (staOf (.grp n b ms) (bookOf ds)) x y = some (Str.ofString "waits")
    · refine iteT' (decide_eq_true h) ?_
      refine ⟨_, rfl, _, hacc, sz_lt (by rw [List.length_map]; omega), Ex.mut e9 hD, ?_⟩
      rw [upd_same, tk, if_pos (decide_eq_true h), List.map_append]
      rfl
    · refine iteF' (decide_eq_false h) ⟨e9, ?_⟩
      rw [hacc, tk, if_neg (by rw [decide_eq_false h]; exact Bool.false_ne_true), List.append_nil]
  rintro H9 ⟨e9, hD9⟩
  rw [ul, List.take_length] at hD9
  have fin : ∀ H', Ex H9 H' → Q (.bl true) H' := fun H' e => by
    have ee := e9.trans e
    refine q _ H' (g1.ex ee) (by rw [ul]; omega) fun c o ne z => ee _ _ (k8 _ _ ne (e07 _ _ z))
  refine ret_raw40 (orV_raw41 ((ev_eqL0 (f := id) (ev_var rfl) (sq_of hD9)) H9 (Ex.refl H9) _ fun H10 e10 => ?_))
  refine ⟨_, rfl, ?_⟩
  cases hz : (handsOf (.grp n b ms)).filter fun h => decide (whyP (staOf (.grp n b ms) (bookOf ds)) x h = some (Str.ofString "waits")) with
  | nil => exact iteT' rfl (fin H10 e10)
  | cons h t =>
    refine iteF' rfl (notN_raw (hat_within ((g1.ex e9).ex e10) (ev_var rfl) fun H11 e11 => ?_))
    have hh : h ∈ (handsOf (.grp n b ms)).filter fun h => decide (whyP (staOf (.grp n b ms) (bookOf ds)) x h = some (Str.ofString "waits")) := by rw [hz]; exact List.mem_cons_self
    obtain ⟨h1, h2⟩ := List.mem_filter.mp hh
    have h2 := of_decide_eq_true h2
    obtain ⟨r, hr', rsn, _⟩ := stuck_row41 so wf all h1
    have hw : r.how = .waits := by
      rcases rsn with z | ⟨_, z⟩
      · rw [z] at h2
        exact absurd (Option.some.inj h2) (by decide +kernel)
      · exact z
    have := waits_within41 so wf h1 hr' hw
    cases hn : inNow x.hs with
    | none => exact absurd hn this
    | some z => exact fin H11 (e10.trans e11)
end
/-! ### the law -/
theorem ex_bx41 {H5 H H' : Hp} {h : Addr} {C : Nat} (e : Ex H5 H) (A : Bx H h C) (k : Kp h h H H') (n : H5 h = none) : Ex H5 H' := fun c o z => k c o (fun w => by rw [w, n] at z; cases z) (fun w => by rw [w, n] at z; cases z) (e c o z)
theorem q_ifM41 {t : TT} {tu tz : TS} {D : Ends} {σ : L2.St} {H : Hp} (M : L2.St → Hp → Prop) (tail : ∀ σ' H', M σ' H' → tz D σ' H') (go : ∀ R : L2.St → Hp → Prop, (∀ σ' H', M σ' H' → R σ' H') → t σ H fun c H1 => if c = true then tu { D with nx := R } σ H1 else R σ H1) : tSeq (tIfS t tu tNext) tz D σ H := go (tz D) tail
theorem make_raw41 {C : Addr} {sp : Sp} {dvs : List V} {E : XK} {t : TA} {σ : L2.St} {H : Hp} {Q : VK} (h : t σ H fun vs H1 => ∀ x dx, H1 x = none → H1 dx = none → dx ≠ x → sp (.ref x :: (vs ++ dvs)) (upd (upd H1 dx (.own x)) x (.ins C dx [])) (fun v H2 => v = .non ∧ Q (.ref x) H2) E) : tMake C sp dvs E t σ H Q := h
theorem hat_tail41 {K : PySem.W.Frag} {C : Addr} {H2 : Hp} {v : V} {n : Str} {b : Int} {ms : List Tr} {bk : Addr} {ds : List PyData} {E : XK} {Q : Addr → Hp → Prop} (io2 : IniOk K H2 v n b ms bk ds) (q : ∀ p H', HAt K C H' p v n b ms bk ds (shOf (.grp n b ms)) 0 → Ex H2 H' → H2 p = none → Q p H') :
    ∀ x dx, H2 x = none → H2 dx = none → dx ≠ x → spInit K C (.ref x :: ([v, .ref bk] ++ [])) (upd (upd H2 dx (.own x)) x (.ins C dx [])) (fun v H3 => v = .non ∧ Q x H3) E := by
  refine fun p dx np ndx ne => ?_
  have np' : upd H2 dx (.own p) p = none := by rw [upd_ne (Ne.symm ne)]; exact np
  have x1 : Ex H2 (upd (upd H2 dx (.own p)) p (.ins C dx [])) := (Ex.new ndx).trans (Ex.new np')
  have h1 : upd (upd H2 dx (.own p)) p (.ins C dx []) p = some (.ins C dx []) := upd_same
  generalize upd (upd H2 dx (.own p)) p (.ins C dx []) = H5 at x1 h1
  refine ⟨p, dx, v, n, b, ms, bk, ds, rfl, h1, io2.ex x1, fun B H6 b1 b2 b3 k2 ho6 ap6 => ⟨rfl, ?_⟩⟩
  have io6 : IniOk K H6 B.pv n b ms bk ds := by
    rw [b2]
    exact (io2.ex x1).kp h1 k2
  have hs6 := hse_new ho6 b3 io6 ap6
  exact q p H6 ⟨B, b1, b2, hs6⟩ (ex_kp x1 np k2) np
def spLaw (K : PySem.W.Frag) : Sp := fun vs H Q _ => ∃ (a : Addr) (ns : List Int), vs = [.ref a] ∧ SqL K H a (ns.map V.int) ∧ ns.length ≤ 63 ∧ Sy K H ∧ ∀ H', Q (.bl true) H'
section
variable {P : Program} {w : World} {K : PySem.W.Frag} {mg : Str → Option Value} {base : Heap}
theorem ok_law (T : Tp w K mg) : FnG P w K mg base 21 T.f_law T.d_law ["_law_script"] (spLaw K) := by
  refine fun_g T.F_law sc_law (fun vs H Q E h => ?_) (fun cdv A outer s H vs Q E hG hr h => ?_)
  · obtain ⟨a, ns, rfl, _⟩ := h
    rfl
  obtain ⟨a, ns, rfl, hS, h63, y0, q⟩ := h
  refine ⟨_, (pss_cons (ps_for PassesOwn.never rfl (pi_range1 rfl T.z_range (pa_cons (pe_op op_add pe_int (pe_callB (call_min2 rfl) rfl T.z_min (by decide +kernel) (pa_cons pe_int (pa_cons (pe_callB (lenK (K := K) rfl) rfl T.z_len PySem.boot_len (pa_cons (pv 0) pa_nil (star1 rfl)) (by decide) (by decide) (star1 rfl) (starAll rfl)) pa_nil (star1 rfl)) (star1 rfl)) (by decide) (by decide) (star1 rfl) (starAll rfl))) pa_nil (star1 rfl))) (pg_name (i := 1) sc_law.nd rfl (Or.inl rfl)) (pss_cons (ps_set (i := 2) sc_law.nd rfl (Or.inr rfl) (pe_call (ok__law_box T) (hr.mono (by decide)) rfl T.m__law_box T.F__law_box.kp (b__law_box T) .nil pass0 (pa_cons (pv 0) (pa_cons (pv 1) pa_nil (star1 rfl)) (star1 rfl)) (by decide) (star1 rfl) (starAll rfl)))
  (pss_cons (ps_set (i := 3) sc_law.nd rfl (Or.inl rfl) (pe_call (ok__law_plan T) (hr.mono (by decide)) rfl T.m__law_plan T.F__law_plan.kp (b__law_plan T) .nil pass0 (pa_cons (pv 2) pa_nil (star1 rfl)) (by decide) (star1 rfl) (starAll rfl)))
  (pss_cons (ps_set (i := 4) sc_law.nd rfl (Or.inl rfl) (pe_call (ok__law_in T) (hr.mono (by decide)) rfl T.m__law_in T.F__law_in.kp (b__law_in T) .nil pass0 (pa_cons (pv 3) pa_nil (star1 rfl)) (by decide) (star1 rfl) (starAll rfl)))
  (pss_cons (ps_set (i := 5) sc_law.nd rfl (Or.inl rfl) (pe_make T.mk_House (ok_House___init__ T) (hr.mono (by decide)) rfl T.mc_House (b_House___init__ T) .nil pass0 (pa_cons (pv 3) (pa_cons (pe_callTy (call_tupF (K := K) rfl) rfl T.z_tuple (by decide +kernel) (pa_cons (pe_lc (own := [("_law_name", 9)]) (g := gName 9) (tt := tYes) rfl sc_law.nd (plLK (K := K) rfl (pe_callB cr_sortedS rfl T.z_sorted (by decide +kernel) (pa_cons (pv 4) pa_nil (star1 rfl)) (by decide) (by decide) (star1 rfl) (starAll rfl))) (blkOk_by (N := N_law) (sc := defScope s_law) (by decide +kernel)) (fun _ _ _ _ _ => (pg_name (i := 9) sc_law.nd rfl (Or.inl rfl))) (fun _ _ _ _ _ => pts_nil) (fun _ _ _ _ _ => (pe_tup (pa_cons (pv 9) (pa_cons (pe_call (ok__law_short T) (hr.mono (by decide)) rfl T.m__law_short T.F__law_short.kp (b__law_short T) .nil pass0 (pa_cons (pv 2) pa_nil (star1 rfl)) (by decide) (star1 rfl) (starAll rfl)) pa_nil (star1 rfl)) (star1 rfl))))) pa_nil (star1 rfl)) (by decide) (by decide) (star1 rfl) (starAll rfl)) pa_nil (star1 rfl)) (star1 rfl)) (by decide) (star1 rfl) (starAll rfl)))
  (pss_cons (ps_for PassesOwn.never rfl (pi_range1 rfl T.z_range (pa_cons pe_int pa_nil (star1 rfl))) (pg_name (i := 6) sc_law.nd rfl (Or.inl rfl)) (pss_cons (ps_asg (pe_call (ok__law_movers T) (hr.mono (by decide)) rfl T.m__law_movers T.F__law_movers.kp (b__law_movers T) .nil pass0 (pa_cons (pv 5) (pa_cons (pv 4) pa_nil (star1 rfl)) (star1 rfl)) (by decide) (star1 rfl) (starAll rfl)) (pg_tup rfl (pgs_cons (pg_name (i := 7) sc_law.nd rfl (Or.inl rfl)) (pgs_cons (pg_name (i := 8) sc_law.nd rfl (Or.inl rfl)) pgs_nil))))
  (pss_cons (ps_if (PW.pt (pw_and (pt_cmpR op_eq (pe_op op_mod (pv 6) pe_int) pe_int (nomark _)) (pw_and1 (pt_not (pt_val (pe_call (ok__law_right T) (hr.mono (by decide)) rfl T.m__law_right T.F__law_right.kp (b__law_right T) .nil pass0 (pa_cons (pv 5) (pa_cons (pv 4) pa_nil (star1 rfl)) (star1 rfl)) (by decide) (star1 rfl) (starAll rfl))))))) (pss_one (ps_ret pe_bl)) pss_nil)
  (pss_one (ps_if (pt_cmpR (neL0K (K := K) rfl (hu_e hr)) (pv 7) (pe_lst pa_nil) (nomark _)) (pss_one (ps_expr (pe_meth (pv 5) T.cl_House T.mt_House_step (ok_House_step T) (hr.mono (by decide)) (b_House_step T) .nil pass0 (pa_cons (pe_call (ok__law_pick T) (hr.mono (by decide)) rfl T.m__law_pick T.F__law_pick.kp (b__law_pick T) .nil pass0 (pa_cons (pv 2) (pa_cons (pv 7) pa_nil (star1 rfl)) (star1 rfl)) (by decide) (star1 rfl) (starAll rfl)) pa_nil (star1 rfl)) (star1 rfl) (starAll rfl)))) pss_nil)))))
  (pss_one (ps_if (pt_not (pt_val (pe_call (ok__law_right T) (hr.mono (by decide)) rfl T.m__law_right T.F__law_right.kp (b__law_right T) .nil pass0 (pa_cons (pv 5) (pa_cons (pv 4) pa_nil (star1 rfl)) (star1 rfl)) (by decide) (star1 rfl) (starAll rfl)))) (pss_one (ps_ret pe_bl)) pss_nil))))))))
  (pss_one (ps_ret pe_bl))), ?_⟩
  refine q_forR1 (n := 1 + (if (((ns.map V.int).length : Nat) : Int) < 3 then (((ns.map V.int).length : Nat) : Int) else 3)) (ea_cons (ev_op ev_c (ev_cb (ea_cons ev_c (ea_cons (ev_len (ev_var rfl) hS) ea_nil)) fun H1 e Q q => ⟨_, _, rfl, q H1 (Ex.refl _)⟩) rv_I0) ea_nil) ⟨by split <;> omega, by rw [List.length_map]; split <;> omega⟩ (fun _ σ' H' => Ex H H' ∧ ∃ c1 c2 c3 c4 c5 c6 c7 c8 c9, σ' = [some (.ref a), c1, c2, c3, c4, c5, c6, c7, c8, c9]) (fun H5 e5 => ⟨e5, _, _, _, _, _, _, _, _, _, rfl⟩) ?_ ?_
  rotate_left
  · rintro σ' H5 ⟨e5, c1, c2, c3, c4, c5, c6, c7, c8, c9, rfl⟩
    exact q H5
  rintro k σ' H5 hk ⟨e5, c1, c2, c3, c4, c5, c6, c7, c8, c9, rfl⟩
  have hk63 : k ≤ 63 := by
    rw [List.length_map] at hk
    split at hk <;> omega
  -- the box, the plan, the hands
  refine q_asgP (call_raw (cons_raw ⟨_, rfl, cons_raw ⟨_, rfl, tn_raw ⟨a, ns, k, rfl, ex_l e5 hS, h63, hk63, fun h H6 e6 n6 A6 => ?_⟩⟩⟩))
  refine q_asgP (call_raw (cons_raw ⟨_, rfl, tn_raw ⟨h, 0, rfl, A6, by omega, fun v b ms H7 A7 k7 pg => ?_⟩⟩))
  have dp := pg.dp
  have sz := pg.sz
  refine q_asgP (call_raw (cons_raw ⟨_, rfl, tn_raw ⟨v, "w", b, ms, rfl, pg.tv, dp, by omega, fun hl H8 e8 nhl h8 => ?_⟩⟩))
  rw [← handsOf_P] at h8
  have hh1 := hands_pos pg.ok
  have hl10 : (handsOf (.grp "w" b ms)).length ≤ 10 := by
    have := names_len (.grp "w" b ms)
    rw [List.length_append] at this
    omega
  have hlh : hl ≠ h := A7.fresh nhl
  have A8 := A7.ex e8
  have tv8 := trv_tk (TK.ex e8) _ _ pg.tv
  have e58 : Ex H5 H8 := (ex_kp e6 n6 k7).trans e8
  have hnm := pg.nm
  -- the book
  refine q_asgP (make_raw41 (cons_raw ⟨_, rfl, cons_raw (cb_raw (cons_raw ?_))⟩))
  refine ⟨_, rfl, hl, handsOf (.grp "w" b ms), rfl, sq_of h8, by omega, fun ys p hp hs hpp => ?_⟩
  have e9 := Ex.new (o := .lst (ys.map V.str)) hpp
  have h9 : upd H8 p (.lst (ys.map V.str)) p = some (.lst (ys.map V.str)) := upd_same
  have A9 := A8.ex e9
  have ph : p ≠ h := A8.fresh hpp
  generalize upd H8 p (.lst (ys.map V.str)) = H9 at e9 h9 A9 ⊢
  have yl : ys.length ≤ 10 := by rw [hp.length_eq]; exact hl10
  have yn : ∀ y ∈ ys, nameOk y := fun y hy => hnm y (hands_in _ y (hp.mem_iff.mp hy))
  refine ⟨p, rfl, ⟨_, sq_of h9⟩, fun D hD => ?_⟩
  have dh := A9.fresh hD
  have dpp : D ≠ p := fun z => by
    subst z
    rw [h9] at hD
    cases hD
  refine lc_list (K := K) (a := p) (xs := ys.map V.str) (fun i H' => Bx H' h (10 + 2 * i) ∧ Kp h h H9 H' ∧ ∃ xs ds, H' D = some (.lst xs) ∧ TDs K H' 4410 61 3 xs ds ∧ (∀ d ∈ ds, pairB d = true) ∧ ds.map pairName = ys.take i) ⟨A9.new hD, Kp.ex (Ex.new hD), [], [], upd_same, .nil, (fun d hd => by cases hd), rfl⟩ (fun i H' _ hP => sq_of (hP.2.1 _ _ ph ph h9)) ?_ ?_
  · intro i x H3 hx hP
    obtain ⟨A3, k3, xs, ds, hacc, tds, hpb, hnmE⟩ := hP
    obtain ⟨y, hy, rfl⟩ : ∃ y, ys[i]? = some y ∧ x = .str y := by
      rw [List.getElem?_map] at hx
      cases hz : ys[i]? with
      | none => rw [hz] at hx; cases hx
      | some y => rw [hz] at hx; cases hx; exact ⟨y, rfl, rfl⟩
    have hi := (List.getElem?_eq_some_iff.mp hy).1
    have dl : ds.length = i := by
      have := congrArg List.length hnmE
      rw [List.length_map, List.length_take] at this
      omega
    refine ⟨rfl, tYesQ ?_⟩
    refine tup_raw (cons_raw ⟨_, rfl, cons_raw (call_raw (cons_raw ⟨_, rfl, tn_raw ⟨h, _, rfl, A3, by omega, fun pv d H4 A4 k4 td pf => tn_raw ⟨(by show 2 ≤ sizeLine; decide), fun t ht => ?_⟩⟩⟩))⟩)
    have e5' := Ex.new (o := .tup [.str y, pv]) ht
    have acc5 := e5' _ _ (k4 _ _ dh dh hacc)
    have stA : ST K H3 (upd H4 t (.tup [.str y, pv])) := (ST.bx A3 k4).trans (ST.ex e5')
    have pd : TD K (upd H4 t (.tup [.str y, pv])) 4410 61 3 (.ref t) (.tuple [.str y, d]) := (TDs.tup (n := 2) (.cons ((td_nameF (yn y (List.mem_of_getElem? hy))).up (by decide) (by decide) (by decide)) (.cons (td.st (ST.ex e5')) .nil)) (st_of upd_same) (by show 2 ≤ 2; decide)).up (by decide) (by decide) (by decide)
    have xl := tds.len
    have A5 := A4.ex e5'
    have k5 := k4.trans (Kp.ex e5')
    generalize upd H4 t (.tup [.str y, pv]) = H5' at acc5 stA pd A5 k5
    refine ⟨xs, acc5, sz_lt (by omega), ?_, ?_, xs ++ [.ref t], ds ++ [.tuple [.str y, d]], upd_same, (tds.st (stA.trans (ST.lst acc5))).one (pd.st (ST.lst acc5)), fun d' hd' => ?_, ?_⟩
    · obtain ⟨x1, x2, x3, B⟩ := A5
      exact ⟨x1, x2, x3, by rw [upd_ne (Ne.symm dh)]; exact B.hh, B.n0, B.m0, B.m1, B.c0, by have := B.c1; omega⟩
    · intro c o u1 u2 hc
      have : c ≠ D := fun z => by
        subst z
        rw [hD] at hc
        cases hc
      rw [upd_ne this]
      exact k5 c o u1 u2 (k3 c o u1 u2 hc)
    · rcases List.mem_append.mp hd' with z | z
      · exact hpb d' z
      · rw [List.mem_singleton.mp z]
        exact pf
    · rw [List.map_append, hnmE, List.take_succ_eq_append_getElem hi]
      congr 1
      have := (List.getElem?_eq_some_iff.mp hy).2
      rw [this]
      rfl
  rintro H10 ⟨A10, k10, xs, ds, hacc, tds, hpb, hnmE⟩
  rw [List.length_map, List.take_length] at hnmE
  rw [List.length_map] at A10
  have dl : ds.length ≤ 10 := by
    have := congrArg List.length hnmE
    rw [List.length_map] at this
    omega
  refine tn_raw ⟨D, xs, rfl, sq_of hacc, fun bk o hbk ho => tn_raw ?_⟩
  have e11 := Ex.new (o := .frz o (.tup xs)) hbk
  have bk11 : upd H10 bk (.frz o (.tup xs)) bk = some (.frz o (.tup xs)) := upd_same
  have A11 := A10.ex e11
  have tds11 := tds.st (ST.ex e11)
  generalize upd H10 bk (.frz o (.tup xs)) = H11 at e11 bk11 A11 tds11 ⊢
  have e510 : Ex H5 H10 := fun c o z => k10 _ _ (fun w => by rw [w, n6] at z; cases z) (fun w => by rw [w, n6] at z; cases z) (e9 _ _ (e58 _ _ z))
  have e511 := e510.trans e11
  have h11 : H11 hl = some (.lst ((handsOf (.grp "w" b ms)).map V.str)) := e11 _ _ (k10 _ _ hlh hlh (e9 _ _ h8))
  have hbk' : bookB ys (.tuple ds) = true := by
    unfold bookB
    dsimp only
    rw [decide_eq_true hnmE, Bool.and_true, List.all_eq_true]
    exact hpb
  have io11 : IniOk K H11 v "w" b ms bk ds := ⟨trv_tk (TK.ex e11) _ _ (trv_tk (tk_bx A9 k10) _ _ (trv_tk (TK.ex e9) _ _ tv8)), pg.ok, by omega, by omega, pg.nd, pg.nm, ⟨o, xs, bk11, ho, tds11⟩, by omega, ⟨ys, hp, hs, hbk'⟩⟩
  refine hat_tail41 io11 fun p1 H12 f12 e12 np12 => ?_
  have A12 := (A11.ex e12).up (C' := 40) (by omega)
  have h12 := e12 _ _ h11
  have e512 := e511.trans e12
  have p5 : H5 p1 = none := fresh_back e511 np12
  have hlp : hl ≠ p1 := fun w => by rw [← w, h11] at np12; cases np12
  clear io11 hbk' h11 e511 e510 tds11 A11 bk11 e11 hbk tds hacc hpb hnmE A10 k10 hD dh dpp h9 A9 ph e9 hpp hs hp yn yl tv8 A8 h8 nhl A7 k7 e6 A6 e58 e8 np12
  -- eighty turns
  refine q_forR1 (n := 80) (ea_cons ev_c ea_nil) ⟨by decide, by decide⟩ (fun i σ' H' => ∃ (x : SH) (N : Nat) (d6 d7 d8 d9 : Option V), σ' = [some (.ref a), some (.int (k : Int)), some (.ref h), some v, some (.ref hl), some (.ref p1), d6, d7, d8, d9] ∧ HAt K T.C_House H' p1 v "w" b ms bk ds x N ∧ N ≤ i + 10 * ((i + 9) / 10) ∧ H' hl = some (.lst ((handsOf (.grp "w" b ms)).map V.str)) ∧ Bx H' h (40 + i) ∧ Ex H5 H') (fun H13 e13 => ⟨_, 0, _, _, _, _, rfl, f12.ex e13, by omega, e13 _ _ h12, A12.ex e13, e512.trans e13⟩) ?_ ?_
  · rintro i σ' H13 hi ⟨x, N, d6, d7, d8, d9, rfl, f, hN, h13, A13, e13⟩
    have hi : i < 80 := by omega
    refine q_asgG (call_raw (cons_raw ⟨_, rfl, cons_raw ⟨_, rfl, tn_raw ⟨p1, hl, bk, v, "w", b, ms, ds, x, N, rfl, f, by omega, h13, fun r m fo H14 e14 hr1 nm m14 _ => ⟨r, _, rfl, hr1, rfl, _, _, rfl, _, _, rfl, rfl, ?_⟩⟩⟩⟩))
    have np1 : p1 ≠ m := f.new nm
    have mh : m ≠ h := A13.fresh nm
    have f := f.ex e14
    have A14 := A13.ex e14
    have h14 := e14 _ _ h13
    have e514 := e13.trans e14
    clear hr1 nm A13 h13 e13 e14
    refine q_ifM41 (fun σ' H' => ∃ N', σ' = [some (.ref a), some (.int (k : Int)), some (.ref h), some v, some (.ref hl), some (.ref p1), some (.int (i : Int)), some (.ref m), some (.ref fo), d9] ∧ HAt K T.C_House H' p1 v "w" b ms bk ds x N' ∧ N' ≤ i + 10 * ((i + 10) / 10) ∧ H' m = some (.lst ((mv41 (staOf (.grp "w" b ms) (bookOf ds)) x (handsOf (.grp "w" b ms))).map V.str)) ∧ H' hl = some (.lst ((handsOf (.grp "w" b ms)).map V.str)) ∧ Bx H' h (40 + i) ∧ Ex H5 H') ?tailM ?goM
    case goM =>
      intro R tail
      refine and_raw (tst_raw (op_raw (op_raw ⟨_, rfl, tc_raw ⟨(i : Int), 10, rfl, rfl, (by show (0 : Int) < 10; decide), tc_raw ⟨rfl, _, rfl, ?_⟩⟩⟩)))
      show if decide (V.int ((i : Int) % 10) = V.int 0) = true then _ else _
      by_cases t10 : (i : Int) % 10 = 0
      · refine iteT' (decide_eq_true (by rw [t10])) ?_
        refine not_raw (tB_raw (call_raw (cons_raw ⟨_, rfl, cons_raw ⟨_, rfl, tn_raw ⟨p1, hl, bk, v, "w", b, ms, ds, x, N, rfl, f, by omega, hl10, h14, fun N' H15 f15 hN' k15 => ⟨_, rfl, iteF' rfl ?_⟩⟩⟩⟩)))
        exact tail _ _ ⟨N', rfl, f15, by omega, k15 _ _ (Ne.symm np1) m14, k15 _ _ hlp h14, A14.kp (Ne.symm (f.nbx A14)) fun c oo q1 _ z => k15 c oo q1 z, fun c oo z => k15 c oo (fun w => by rw [w, p5] at z; cases z) (e514 c oo z)⟩
      · refine iteF' (decide_eq_false fun z => t10 (V.int.inj z)) ?_
        exact tail _ _ ⟨N, rfl, f, by omega, m14, h14, A14, e514⟩
    case tailM =>
    clear f A14 h14 e514 m14 hN
    rintro σ' H15 ⟨N', rfl, f, hN', m15, h15, A15, e15⟩
    refine s_ifP ((et_test (ev_eqL0 (f := not) (ev_var rfl) (sq_of m15))) H15 (Ex.refl H15) _ fun H16 e16 => ?_)
    cases hz : mv41 (staOf (.grp "w" b ms) (bookOf ds)) x (handsOf (.grp "w" b ms)) with
    | nil => exact iteF' rfl (nx_tn ⟨_, N', _, _, _, _, rfl, f.ex e16, by omega, e16 _ _ h15, (A15.ex e16).up (by omega), e15.trans e16⟩)
    | cons z0 zs =>
      rw [hz] at m15
      have ml : (z0 :: zs).length ≤ 10 := by
        rw [← hz]
        exact Nat.le_trans (List.length_filter_le _ _) hl10
      refine iteT' rfl (s_dropP (hat_rec (f.ex e16) (ev_var rfl) fun H17 e17 => cons_raw (call_raw (cons_raw ⟨_, rfl, cons_raw ⟨_, rfl, tn_raw ?_⟩⟩))))
      have e67 := e16.trans e17
      have A17 := A15.ex e67
      have f17 := f.ex e67
      refine ⟨h, m, _, _, rfl, A17, by omega, e67 _ _ m15, mh, by rw [List.length_map]; simp, by rw [List.length_map]; omega, fun mv H18 hmv A18 k18 => tn_raw ?_⟩
      obtain ⟨y, hy, rfl⟩ := List.mem_map.mp hmv
      have hm : y ∈ handsOf (.grp "w" b ms) := by
        rw [← hz] at hy
        exact (List.mem_filter.mp hy).1
      have f18 := f17.bx A17 k18
      have e18 := ex_bx41 (e15.trans e67) A17 k18 n6
      refine hat_sp f18 hm (by omega) fun u H19 f19 k19 g19 _ _ _ => ?_
      exact ⟨_, N' + 1, _, _, _, _, rfl, f19, by omega, k19 _ _ hlp (k18 _ _ hlh hlh (e67 _ _ h15)), (A18.kp (Ne.symm (f18.nbx A18)) fun c oo q1 _ z => k19 c oo q1 z).up (by omega), fun c oo z => k19 c oo (fun w => by rw [w, p5] at z; cases z) (e18 c oo z)⟩
  rintro σ' H13 ⟨x, N, d6, d7, d8, d9, rfl, f, hN, h13, A13, e13⟩
  have hN : N ≤ 300 := by
    have : N ≤ 80 + 10 * ((80 + 9) / 10) := hN
    omega
  refine s_ifP (not_raw (tB_raw (call_raw (cons_raw ⟨_, rfl, cons_raw ⟨_, rfl, tn_raw ⟨p1, hl, bk, v, "w", b, ms, ds, x, N, rfl, f, hN, hl10, h13, fun N' H15 f15 hN' k15 => ⟨_, rfl, iteF' rfl (nx_tn ?_)⟩⟩⟩⟩))))
  exact ⟨e5.trans fun c oo z => k15 c oo (fun w => by rw [w, p5] at z; cases z) (e13 c oo z), _, _, _, _, _, _, _, _, _, rfl⟩
end
/-! ### the table of forms -/
theorem ktab6 {K : PySem.W.Frag} {w : World} {a : Addr} {e1 e2 e3 e4 e5 e6 : DictEntry} {n : Nat} {t1 t2 t3 t4 t5 t6 : Tok} {f1 f2 f3 f4 f5 f6 : Addr} (l : K.lookup a = some ⟨.type "dict", none, .dict #[e1, e2, e3, e4, e5, e6] n, #[]⟩)
    (kl : PySem.W.KeysLit w.params [e1, e2, e3, e4, e5, e6]) (low : (a == sysModules) = false) (k1 : e1.key = .str "take" t1) (k2 : e2.key = .str "try" t2) (k3 : e3.key = .str "let" t3) (k4 : e4.key = .str "say" t4) (k5 : e5.key = .str "goto" t5) (k6 : e6.key = .str "if" t6)
    (v1 : e1.val = .ref f1) (v2 : e2.val = .ref f2) (v3 : e3.val = .ref f3) (v4 : e4.val = .ref f4) (v5 : e5.val = .ref f5) (v6 : e6.val = .ref f6) :
    KTab K w a (fun z => if z = "take" then some (.ref f1) else if z = "try" then some (.ref f2) else if z = "let" then some (.ref f3) else if z = "say" then some (.ref f4) else if z = "goto" then some (.ref f5) else if z = "if" then some (.ref f6) else none) := by
  refine ⟨_, _, l, kl, low, fun z => ?_⟩
  have s : ∀ (x z : Str) (t : Tok), (Value.str x t).isStr z = decide (z = x) := fun x z t => by
    show (x == z) = decide (z = x)
    by_cases h : z = x
    · rw [h, decide_eq_true rfl, beq_self_eq_true]
    · rw [decide_eq_false h]
      exact beq_eq_false_iff_ne.mpr (Ne.symm h)
  unfold PySem.W.nsIn
  rw [l]
  simp only [List.find?_cons, List.find?_nil, k1, k2, k3, k4, k5, k6, s]
  by_cases n1 : z = "take"
  · rw [decide_eq_true n1, if_pos n1]
    show some (some e1.val) = some (some (.ref f1))
    rw [v1]
  by_cases n2 : z = "try"
  · rw [decide_eq_false n1, decide_eq_true n2, if_neg n1, if_pos n2]
    show some (some e2.val) = some (some (.ref f2))
    rw [v2]
  by_cases n3 : z = "let"
  · rw [decide_eq_false n1, decide_eq_false n2, decide_eq_true n3, if_neg n1, if_neg n2, if_pos n3]
    show some (some e3.val) = some (some (.ref f3))
    rw [v3]
  by_cases n4 : z = "say"
  · rw [decide_eq_false n1, decide_eq_false n2, decide_eq_false n3, decide_eq_true n4, if_neg n1, if_neg n2, if_neg n3, if_pos n4]
    show some (some e4.val) = some (some (.ref f4))
    rw [v4]
  by_cases n5 : z = "goto"
  · rw [decide_eq_false n1, decide_eq_false n2, decide_eq_false n3, decide_eq_false n4, decide_eq_true n5, if_neg n1, if_neg n2, if_neg n3, if_neg n4, if_pos n5]
    show some (some e5.val) = some (some (.ref f5))
    rw [v5]
  by_cases n6 : z = "if"
  · rw [decide_eq_false n1, decide_eq_false n2, decide_eq_false n3, decide_eq_false n4, decide_eq_false n5, decide_eq_true n6, if_neg n1, if_neg n2, if_neg n3, if_neg n4, if_neg n5, if_pos n6]
    show some (some e6.val) = some (some (.ref f6))
    rw [v6]
  rw [decide_eq_false n1, decide_eq_false n2, decide_eq_false n3, decide_eq_false n4, decide_eq_false n5, decide_eq_false n6, if_neg n1, if_neg n2, if_neg n3, if_neg n4, if_neg n5, if_neg n6]
  simp only [List.any_cons, List.any_nil, DictEntry.refKey, k1, k2, k3, k4, k5, k6]
  rfl
theorem ktab4 {K : PySem.W.Frag} {w : World} {a : Addr} {e1 e2 e3 e4 : DictEntry} {n : Nat} {t1 t2 t3 t4 : Tok} {f1 f2 f3 f4 : Addr} (l : K.lookup a = some ⟨.type "dict", none, .dict #[e1, e2, e3, e4] n, #[]⟩)
    (kl : PySem.W.KeysLit w.params [e1, e2, e3, e4]) (low : (a == sysModules) = false) (k1 : e1.key = .str "out" t1) (k2 : e2.key = .str "loose" t2) (k3 : e3.key = .str "waits" t3) (k4 : e4.key = .str "within" t4)
    (v1 : e1.val = .ref f1) (v2 : e2.val = .ref f2) (v3 : e3.val = .ref f3) (v4 : e4.val = .ref f4) :
    KTab K w a (fun z => if z = "out" then some (.ref f1) else if z = "loose" then some (.ref f2) else if z = "waits" then some (.ref f3) else if z = "within" then some (.ref f4) else none) := by
  refine ⟨_, _, l, kl, low, fun z => ?_⟩
  have s : ∀ (x z : Str) (t : Tok), (Value.str x t).isStr z = decide (z = x) := fun x z t => by
    show (x == z) = decide (z = x)
    by_cases h : z = x
    · rw [h, decide_eq_true rfl, beq_self_eq_true]
    · rw [decide_eq_false h]
      exact beq_eq_false_iff_ne.mpr (Ne.symm h)
  unfold PySem.W.nsIn
  rw [l]
  simp only [List.find?_cons, List.find?_nil, k1, k2, k3, k4, s]
  by_cases n1 : z = "out"
  · rw [decide_eq_true n1, if_pos n1]
    show some (some e1.val) = some (some (.ref f1))
    rw [v1]
  by_cases n2 : z = "loose"
  · rw [decide_eq_false n1, decide_eq_true n2, if_neg n1, if_pos n2]
    show some (some e2.val) = some (some (.ref f2))
    rw [v2]
  by_cases n3 : z = "waits"
  · rw [decide_eq_false n1, decide_eq_false n2, decide_eq_true n3, if_neg n1, if_neg n2, if_pos n3]
    show some (some e3.val) = some (some (.ref f3))
    rw [v3]
  by_cases n4 : z = "within"
  · rw [decide_eq_false n1, decide_eq_false n2, decide_eq_false n3, decide_eq_true n4, if_neg n1, if_neg n2, if_neg n3, if_pos n4]
    show some (some e4.val) = some (some (.ref f4))
    rw [v4]
  rw [decide_eq_false n1, decide_eq_false n2, decide_eq_false n3, decide_eq_false n4, if_neg n1, if_neg n2, if_neg n3, if_neg n4]
  simp only [List.any_cons, List.any_nil, DictEntry.refKey, k1, k2, k3, k4]
  rfl
theorem all_mk {l : PySem.W.OpenLaw} {w : World} {K : PySem.W.Frag} {h : Heap} {mg : Str → Option Value} {fa f0 f1 f2 f3 f4 f5 f6 f7 f8 f9 f10 f11 f12 f13 f14 f15 f16 f17 f18 f19 f20 f21 f22 f23 f24 f25 f26 f27 f28 f29 f30 f31 f32 f33 f34 f35 f36 f37 f38 f39 f40 f41 f42 f43 f44 f45 f46 f47 f48 f49 f50 f51 f52 f53 f54 f55 f56 f57 f58 f59 f60 f61 f62 f63 f64 f65 f66 f67 f68 f69 f70 : Addr} {C_Draft C_House : Addr} (X : K.In h) (G : h.Ns mainGlobals mg) (hfa : mg "law" = some (.ref fa))
    {od0 an0 od1 an1 od2 an2 od3 an3 od4 an4 od5 an5 od6 an6 od7 an7 od8 an8 od9 an9 od10 an10 od11 an11 od12 an12 od13 an13 od14 an14 od15 an15 od16 an16 od17 an17 od18 an18 od19 an19 od20 an20 od21 an21 od22 an22 od23 an23 od24 an24 od25 an25 od26 an26 od27 an27 od28 an28 od29 an29 od30 an30 od31 an31 od32 an32 od33 an33 od34 an34 od35 an35 od36 an36 od37 an37 od38 an38 od39 an39 od40 an40 od41 an41 od42 an42 od43 an43 od44 an44 od45 an45 od46 an46 od47 an47 od48 an48 od49 an49 od50 an50 od51 an51 od52 an52 od53 an53 od54 an54 od55 an55 od56 an56 od57 an57 od58 an58 od59 an59 od60 an60 od61 an61 od62 an62 od63 an63 od64 an64 od65 an65 od66 an66 od67 an67 od68 an68 od69 an69 od70 an70 : Option Addr} {sl0 sl1 sl2 sl3 sl4 sl5 sl6 sl7 sl8 sl9 sl10 sl11 sl12 sl13 sl14 sl15 sl16 sl17 sl18 sl19 sl20 sl21 sl22 sl23 sl24 sl25 sl26 sl27 sl28 sl29 sl30 sl31 sl32 sl33 sl34 sl35 sl36 sl37 sl38 sl39 sl40 sl41 sl42 sl43 sl44 sl45 sl46 sl47 sl48 sl49 sl50 sl51 sl52 sl53 sl54 sl55 sl56 sl57 sl58 sl59 sl60 sl61 sl62 sl63 sl64 sl65 sl66 sl67 sl68 sl69 sl70 : Array (Option Value)} {oc0 kV0 dc0 pm0 cd0 ct0 oc1 kV1 dc1 pm1 cd1 ct1 oc2 kV2 dc2 pm2 cd2 ct2 oc3 kV3 dc3 pm3 cd3 ct3 oc4 kV4 dc4 pm4 cd4 ct4 oc5 kV5 dc5 pm5 cd5 ct5 oc6 kV6 dc6 pm6 cd6 ct6 oc7 kV7 dc7 pm7 cd7 ct7 oc8 kV8 dc8 pm8 cd8 ct8 oc9 kV9 dc9 pm9 cd9 ct9 oc10 kV10 dc10 pm10 cd10 ct10 oc11 kV11 dc11 pm11 cd11 ct11 oc12 kV12 dc12 pm12 cd12 ct12 oc13 kV13 dc13 pm13 cd13 ct13 oc14 kV14 dc14 pm14 cd14 ct14 oc15 kV15 dc15 pm15 cd15 ct15 oc16 kV16 dc16 pm16 cd16 ct16 oc17 kV17 dc17 pm17 cd17 ct17 oc18 kV18 dc18 pm18 cd18 ct18 oc19 kV19 dc19 pm19 cd19 ct19 oc20 kV20 dc20 pm20 cd20 ct20 oc21 kV21 dc21 pm21 cd21 ct21 oc22 kV22 dc22 pm22 cd22 ct22 oc23 kV23 dc23 pm23 cd23 ct23 oc24 kV24 dc24 pm24 cd24 ct24 oc25 kV25 dc25 pm25 cd25 ct25 oc26 kV26 dc26 pm26 cd26 ct26 oc27 kV27 dc27 pm27 cd27 ct27 oc28 kV28 dc28 pm28 cd28 ct28 oc29 kV29 dc29 pm29 cd29 ct29 oc30 kV30 dc30 pm30 cd30 ct30 oc31 kV31 dc31 pm31 cd31 ct31 oc32 kV32 dc32 pm32 cd32 ct32 oc33 kV33 dc33 pm33 cd33 ct33 oc34 kV34 dc34 pm34 cd34 ct34 oc35 kV35 dc35 pm35 cd35 ct35 oc36 kV36 dc36 pm36 cd36 ct36 oc37 kV37 dc37 pm37 cd37 ct37 oc38 kV38 dc38 pm38 cd38 ct38 oc39 kV39 dc39 pm39 cd39 ct39 oc40 kV40 dc40 pm40 cd40 ct40 oc41 kV41 dc41 pm41 cd41 ct41 oc42 kV42 dc42 pm42 cd42 ct42 oc43 kV43 dc43 pm43 cd43 ct43 oc44 kV44 dc44 pm44 cd44 ct44 oc45 kV45 dc45 pm45 cd45 ct45 oc46 kV46 dc46 pm46 cd46 ct46 oc47 kV47 dc47 pm47 cd47 ct47 oc48 kV48 dc48 pm48 cd48 ct48 oc49 kV49 dc49 pm49 cd49 ct49 oc50 kV50 dc50 pm50 cd50 ct50 oc51 kV51 dc51 pm51 cd51 ct51 oc52 kV52 dc52 pm52 cd52 ct52 oc53 kV53 dc53 pm53 cd53 ct53 oc54 kV54 dc54 pm54 cd54 ct54 oc55 kV55 dc55 pm55 cd55 ct55 oc56 kV56 dc56 pm56 cd56 ct56 oc57 kV57 dc57 pm57 cd57 ct57 oc58 kV58 dc58 pm58 cd58 ct58 oc59 kV59 dc59 pm59 cd59 ct59 oc60 kV60 dc60 pm60 cd60 ct60 oc61 kV61 dc61 pm61 cd61 ct61 oc62 kV62 dc62 pm62 cd62 ct62 oc63 kV63 dc63 pm63 cd63 ct63 oc64 kV64 dc64 pm64 cd64 ct64 oc65 kV65 dc65 pm65 cd65 ct65 oc66 kV66 dc66 pm66 cd66 ct66 oc67 kV67 dc67 pm67 cd67 ct67 oc68 kV68 dc68 pm68 cd68 ct68 oc69 kV69 dc69 pm69 cd69 ct69 oc70 kV70 dc70 pm70 cd70 ct70 : Value}
    (aC_Draft : PySem.W.nsIn K mainGlobals "Draft" = some (some (.ref C_Draft))) (pg_Draft : PySem.W.plainGet K C_Draft Str.empty = true) (hd_Draft : PySem.W.hasDictIn K C_Draft = true) (po_Draft : PySem.W.plainOver K C_Draft = true) (sa_Draft : PySem.W.findIn K (.ref C_Draft) "__setattr__" = some (some (.builtin "object.__setattr__"))) (mk_Draft : PySem.W.makesIn K C_Draft = true) (kc_Draft : PySem.W.keepIn K (.ref C_Draft) = true)
    (na_Draft_paths : PySem.W.findIn K (.ref C_Draft) "paths" = some none)
    (na_Draft_bounds : PySem.W.findIn K (.ref C_Draft) "bounds" = some none)
    (na_Draft_programs : PySem.W.findIn K (.ref C_Draft) "programs" = some none)
    (na_Draft_hands : PySem.W.findIn K (.ref C_Draft) "hands" = some none)
    (na_Draft_groups : PySem.W.findIn K (.ref C_Draft) "groups" = some none)
    (na_Draft_told : PySem.W.findIn K (.ref C_Draft) "told" = some none)
    (na_Draft_firsts : PySem.W.findIn K (.ref C_Draft) "firsts" = some none)
    (aC_House : PySem.W.nsIn K mainGlobals "House" = some (some (.ref C_House))) (pg_House : PySem.W.plainGet K C_House Str.empty = true) (hd_House : PySem.W.hasDictIn K C_House = true) (po_House : PySem.W.plainOver K C_House = true) (sa_House : PySem.W.findIn K (.ref C_House) "__setattr__" = some (some (.builtin "object.__setattr__"))) (mk_House : PySem.W.makesIn K C_House = true) (kc_House : PySem.W.keepIn K (.ref C_House) = true)
    (na_House_plan : PySem.W.findIn K (.ref C_House) "plan" = some none)
    (na_House_book : PySem.W.findIn K (.ref C_House) "book" = some none)
    (na_House_paths : PySem.W.findIn K (.ref C_House) "paths" = some none)
    (na_House_bounds : PySem.W.findIn K (.ref C_House) "bounds" = some none)
    (na_House_programs : PySem.W.findIn K (.ref C_House) "programs" = some none)
    (na_House_hands : PySem.W.findIn K (.ref C_House) "hands" = some none)
    (na_House_groups : PySem.W.findIn K (.ref C_House) "groups" = some none)
    (a0 : PySem.W.nsIn K mainGlobals "within_of" = some (some (.ref f0))) (l0 : K.lookup f0 = some ⟨oc0, od0, .func (PySem.W.fnOf "within_of" "within_of" (defArgs s_within_of) (defBody s_within_of) (defScope s_within_of) .none kV0 dc0 pm0 an0 cd0 ct0), sl0⟩) (c0 : PySem.W.codeIn K cd0 "within_of" = true) (k0 : PySem.W.keepIn K (.ref f0) = true)
    (a1 : PySem.W.nsIn K mainGlobals "is_loose" = some (some (.ref f1))) (l1 : K.lookup f1 = some ⟨oc1, od1, .func (PySem.W.fnOf "is_loose" "is_loose" (defArgs s_is_loose) (defBody s_is_loose) (defScope s_is_loose) .none kV1 dc1 pm1 an1 cd1 ct1), sl1⟩) (c1 : PySem.W.codeIn K cd1 "is_loose" = true) (k1 : PySem.W.keepIn K (.ref f1) = true)
    (a2 : PySem.W.nsIn K mainGlobals "give_lock" = some (some (.ref f2))) (l2 : K.lookup f2 = some ⟨oc2, od2, .func (PySem.W.fnOf "give_lock" "give_lock" (defArgs s_give_lock) (defBody s_give_lock) (defScope s_give_lock) .none kV2 dc2 pm2 an2 cd2 ct2), sl2⟩) (c2 : PySem.W.codeIn K cd2 "give_lock" = true) (k2 : PySem.W.keepIn K (.ref f2) = true)
    (a3 : PySem.W.nsIn K mainGlobals "add_place" = some (some (.ref f3))) (l3 : K.lookup f3 = some ⟨oc3, od3, .func (PySem.W.fnOf "add_place" "add_place" (defArgs s_add_place) (defBody s_add_place) (defScope s_add_place) .none kV3 dc3 pm3 an3 cd3 ct3), sl3⟩) (c3 : PySem.W.codeIn K cd3 "add_place" = true) (k3 : PySem.W.keepIn K (.ref f3) = true)
    (a4 : PySem.W.nsIn K mainGlobals "stand" = some (some (.ref f4))) (l4 : K.lookup f4 = some ⟨oc4, od4, .func (PySem.W.fnOf "stand" "stand" (defArgs s_stand) (defBody s_stand) (defScope s_stand) .none kV4 dc4 pm4 an4 cd4 ct4), sl4⟩) (c4 : PySem.W.codeIn K cd4 "stand" = true) (k4 : PySem.W.keepIn K (.ref f4) = true)
    (a5 : PySem.W.nsIn K mainGlobals "let_go" = some (some (.ref f5))) (l5 : K.lookup f5 = some ⟨oc5, od5, .func (PySem.W.fnOf "let_go" "let_go" (defArgs s_let_go) (defBody s_let_go) (defScope s_let_go) .none kV5 dc5 pm5 an5 cd5 ct5), sl5⟩) (c5 : PySem.W.codeIn K cd5 "let_go" = true) (k5 : PySem.W.keepIn K (.ref f5) = true)
    (a6 : PySem.W.nsIn K mainGlobals "is_below" = some (some (.ref f6))) (l6 : K.lookup f6 = some ⟨oc6, od6, .func (PySem.W.fnOf "is_below" "is_below" (defArgs s_is_below) (defBody s_is_below) (defScope s_is_below) .none kV6 dc6 pm6 an6 cd6 ct6), sl6⟩) (c6 : PySem.W.codeIn K cd6 "is_below" = true) (k6 : PySem.W.keepIn K (.ref f6) = true)
    (a7 : PySem.W.nsIn K mainGlobals "pass_left" = some (some (.ref f7))) (l7 : K.lookup f7 = some ⟨oc7, od7, .func (PySem.W.fnOf "pass_left" "pass_left" (defArgs s_pass_left) (defBody s_pass_left) (defScope s_pass_left) .none kV7 dc7 pm7 an7 cd7 ct7), sl7⟩) (c7 : PySem.W.codeIn K cd7 "pass_left" = true) (k7 : PySem.W.keepIn K (.ref f7) = true)
    (a8 : PySem.W.nsIn K mainGlobals "hand_on" = some (some (.ref f8))) (l8 : K.lookup f8 = some ⟨oc8, od8, .func (PySem.W.fnOf "hand_on" "hand_on" (defArgs s_hand_on) (defBody s_hand_on) (defScope s_hand_on) .none kV8 dc8 pm8 an8 cd8 ct8), sl8⟩) (c8 : PySem.W.codeIn K cd8 "hand_on" = true) (k8 : PySem.W.keepIn K (.ref f8) = true)
    (a9 : PySem.W.nsIn K mainGlobals "hand_near" = some (some (.ref f9))) (l9 : K.lookup f9 = some ⟨oc9, od9, .func (PySem.W.fnOf "hand_near" "hand_near" (defArgs s_hand_near) (defBody s_hand_near) (defScope s_hand_near) .none kV9 dc9 pm9 an9 cd9 ct9), sl9⟩) (c9 : PySem.W.codeIn K cd9 "hand_near" = true) (k9 : PySem.W.keepIn K (.ref f9) = true)
    (a10 : PySem.W.nsIn K mainGlobals "hand_over" = some (some (.ref f10))) (l10 : K.lookup f10 = some ⟨oc10, od10, .func (PySem.W.fnOf "hand_over" "hand_over" (defArgs s_hand_over) (defBody s_hand_over) (defScope s_hand_over) .none kV10 dc10 pm10 an10 cd10 ct10), sl10⟩) (c10 : PySem.W.codeIn K cd10 "hand_over" = true) (k10 : PySem.W.keepIn K (.ref f10) = true)
    (a11 : PySem.W.nsIn K mainGlobals "make_bare" = some (some (.ref f11))) (l11 : K.lookup f11 = some ⟨oc11, od11, .func (PySem.W.fnOf "make_bare" "make_bare" (defArgs s_make_bare) (defBody s_make_bare) (defScope s_make_bare) .none kV11 dc11 pm11 an11 cd11 ct11), sl11⟩) (c11 : PySem.W.codeIn K cd11 "make_bare" = true) (k11 : PySem.W.keepIn K (.ref f11) = true)
    (a12 : PySem.W.nsIn K mainGlobals "leave" = some (some (.ref f12))) (l12 : K.lookup f12 = some ⟨oc12, od12, .func (PySem.W.fnOf "leave" "leave" (defArgs s_leave) (defBody s_leave) (defScope s_leave) .none kV12 dc12 pm12 an12 cd12 ct12), sl12⟩) (c12 : PySem.W.codeIn K cd12 "leave" = true) (k12 : PySem.W.keepIn K (.ref f12) = true)
    (a13 : PySem.W.nsIn K mainGlobals "leave_row" = some (some (.ref f13))) (l13 : K.lookup f13 = some ⟨oc13, od13, .func (PySem.W.fnOf "leave_row" "leave_row" (defArgs s_leave_row) (defBody s_leave_row) (defScope s_leave_row) .none kV13 dc13 pm13 an13 cd13 ct13), sl13⟩) (c13 : PySem.W.codeIn K cd13 "leave_row" = true) (k13 : PySem.W.keepIn K (.ref f13) = true)
    (a14 : PySem.W.nsIn K mainGlobals "places_without" = some (some (.ref f14))) (l14 : K.lookup f14 = some ⟨oc14, od14, .func (PySem.W.fnOf "places_without" "places_without" (defArgs s_places_without) (defBody s_places_without) (defScope s_places_without) .none kV14 dc14 pm14 an14 cd14 ct14), sl14⟩) (c14 : PySem.W.codeIn K cd14 "places_without" = true) (k14 : PySem.W.keepIn K (.ref f14) = true)
    (a15 : PySem.W.nsIn K mainGlobals "is_whole" = some (some (.ref f15))) (l15 : K.lookup f15 = some ⟨oc15, od15, .func (PySem.W.fnOf "is_whole" "is_whole" (defArgs s_is_whole) (defBody s_is_whole) (defScope s_is_whole) .none kV15 dc15 pm15 an15 cd15 ct15), sl15⟩) (c15 : PySem.W.codeIn K cd15 "is_whole" = true) (k15 : PySem.W.keepIn K (.ref f15) = true)
    (a16 : PySem.W.nsIn K mainGlobals "is_whole_from" = some (some (.ref f16))) (l16 : K.lookup f16 = some ⟨oc16, od16, .func (PySem.W.fnOf "is_whole_from" "is_whole_from" (defArgs s_is_whole_from) (defBody s_is_whole_from) (defScope s_is_whole_from) .none kV16 dc16 pm16 an16 cd16 ct16), sl16⟩) (c16 : PySem.W.codeIn K cd16 "is_whole_from" = true) (k16 : PySem.W.keepIn K (.ref f16) = true)
    (a17 : PySem.W.nsIn K mainGlobals "is_tuple_of" = some (some (.ref f17))) (l17 : K.lookup f17 = some ⟨oc17, od17, .func (PySem.W.fnOf "is_tuple_of" "is_tuple_of" (defArgs s_is_tuple_of) (defBody s_is_tuple_of) (defScope s_is_tuple_of) .none kV17 dc17 pm17 an17 cd17 ct17), sl17⟩) (c17 : PySem.W.codeIn K cd17 "is_tuple_of" = true) (k17 : PySem.W.keepIn K (.ref f17) = true)
    (a18 : PySem.W.nsIn K mainGlobals "is_known" = some (some (.ref f18))) (l18 : K.lookup f18 = some ⟨oc18, od18, .func (PySem.W.fnOf "is_known" "is_known" (defArgs s_is_known) (defBody s_is_known) (defScope s_is_known) .none kV18 dc18 pm18 an18 cd18 ct18), sl18⟩) (c18 : PySem.W.codeIn K cd18 "is_known" = true) (k18 : PySem.W.keepIn K (.ref f18) = true)
    (a19 : PySem.W.nsIn K mainGlobals "is_within" = some (some (.ref f19))) (l19 : K.lookup f19 = some ⟨oc19, od19, .func (PySem.W.fnOf "is_within" "is_within" (defArgs s_is_within) (defBody s_is_within) (defScope s_is_within) .none kV19 dc19 pm19 an19 cd19 ct19), sl19⟩) (c19 : PySem.W.codeIn K cd19 "is_within" = true) (k19 : PySem.W.keepIn K (.ref f19) = true)
    (a20 : PySem.W.nsIn K mainGlobals "finish" = some (some (.ref f20))) (l20 : K.lookup f20 = some ⟨oc20, od20, .func (PySem.W.fnOf "finish" "finish" (defArgs s_finish) (defBody s_finish) (defScope s_finish) .none kV20 dc20 pm20 an20 cd20 ct20), sl20⟩) (c20 : PySem.W.codeIn K cd20 "finish" = true) (k20 : PySem.W.keepIn K (.ref f20) = true)
    (a21 : PySem.W.nsIn K mainGlobals "go" = some (some (.ref f21))) (l21 : K.lookup f21 = some ⟨oc21, od21, .func (PySem.W.fnOf "go" "go" (defArgs s_go) (defBody s_go) (defScope s_go) .none kV21 dc21 pm21 an21 cd21 ct21), sl21⟩) (c21 : PySem.W.codeIn K cd21 "go" = true) (k21 : PySem.W.keepIn K (.ref f21) = true)
    (a22 : PySem.W.nsIn K mainGlobals "do_take" = some (some (.ref f22))) (l22 : K.lookup f22 = some ⟨oc22, od22, .func (PySem.W.fnOf "do_take" "do_take" (defArgs s_do_take) (defBody s_do_take) (defScope s_do_take) .none kV22 dc22 pm22 an22 cd22 ct22), sl22⟩) (c22 : PySem.W.codeIn K cd22 "do_take" = true) (k22 : PySem.W.keepIn K (.ref f22) = true)
    (a23 : PySem.W.nsIn K mainGlobals "do_try" = some (some (.ref f23))) (l23 : K.lookup f23 = some ⟨oc23, od23, .func (PySem.W.fnOf "do_try" "do_try" (defArgs s_do_try) (defBody s_do_try) (defScope s_do_try) .none kV23 dc23 pm23 an23 cd23 ct23), sl23⟩) (c23 : PySem.W.codeIn K cd23 "do_try" = true) (k23 : PySem.W.keepIn K (.ref f23) = true)
    (a24 : PySem.W.nsIn K mainGlobals "do_let" = some (some (.ref f24))) (l24 : K.lookup f24 = some ⟨oc24, od24, .func (PySem.W.fnOf "do_let" "do_let" (defArgs s_do_let) (defBody s_do_let) (defScope s_do_let) .none kV24 dc24 pm24 an24 cd24 ct24), sl24⟩) (c24 : PySem.W.codeIn K cd24 "do_let" = true) (k24 : PySem.W.keepIn K (.ref f24) = true)
    (a25 : PySem.W.nsIn K mainGlobals "do_say" = some (some (.ref f25))) (l25 : K.lookup f25 = some ⟨oc25, od25, .func (PySem.W.fnOf "do_say" "do_say" (defArgs s_do_say) (defBody s_do_say) (defScope s_do_say) .none kV25 dc25 pm25 an25 cd25 ct25), sl25⟩) (c25 : PySem.W.codeIn K cd25 "do_say" = true) (k25 : PySem.W.keepIn K (.ref f25) = true)
    (a26 : PySem.W.nsIn K mainGlobals "do_goto" = some (some (.ref f26))) (l26 : K.lookup f26 = some ⟨oc26, od26, .func (PySem.W.fnOf "do_goto" "do_goto" (defArgs s_do_goto) (defBody s_do_goto) (defScope s_do_goto) .none kV26 dc26 pm26 an26 cd26 ct26), sl26⟩) (c26 : PySem.W.codeIn K cd26 "do_goto" = true) (k26 : PySem.W.keepIn K (.ref f26) = true)
    (a27 : PySem.W.nsIn K mainGlobals "do_if" = some (some (.ref f27))) (l27 : K.lookup f27 = some ⟨oc27, od27, .func (PySem.W.fnOf "do_if" "do_if" (defArgs s_do_if) (defBody s_do_if) (defScope s_do_if) .none kV27 dc27 pm27 an27 cd27 ct27), sl27⟩) (c27 : PySem.W.codeIn K cd27 "do_if" = true) (k27 : PySem.W.keepIn K (.ref f27) = true)
    (a28 : PySem.W.nsIn K mainGlobals "do_row" = some (some (.ref f28))) (l28 : K.lookup f28 = some ⟨oc28, od28, .func (PySem.W.fnOf "do_row" "do_row" (defArgs s_do_row) (defBody s_do_row) (defScope s_do_row) .none kV28 dc28 pm28 an28 cd28 ct28), sl28⟩) (c28 : PySem.W.codeIn K cd28 "do_row" = true) (k28 : PySem.W.keepIn K (.ref f28) = true)
    (a29 : PySem.W.nsIn K mainGlobals "do_tie" = some (some (.ref f29))) (l29 : K.lookup f29 = some ⟨oc29, od29, .func (PySem.W.fnOf "do_tie" "do_tie" (defArgs s_do_tie) (defBody s_do_tie) (defScope s_do_tie) .none kV29 dc29 pm29 an29 cd29 ct29), sl29⟩) (c29 : PySem.W.codeIn K cd29 "do_tie" = true) (k29 : PySem.W.keepIn K (.ref f29) = true)
    (a30 : PySem.W.nsIn K mainGlobals "do_look" = some (some (.ref f30))) (l30 : K.lookup f30 = some ⟨oc30, od30, .func (PySem.W.fnOf "do_look" "do_look" (defArgs s_do_look) (defBody s_do_look) (defScope s_do_look) .none kV30 dc30 pm30 an30 cd30 ct30), sl30⟩) (c30 : PySem.W.codeIn K cd30 "do_look" = true) (k30 : PySem.W.keepIn K (.ref f30) = true)
    (a31 : PySem.W.nsIn K mainGlobals "drafted" = some (some (.ref f31))) (l31 : K.lookup f31 = some ⟨oc31, od31, .func (PySem.W.fnOf "drafted" "drafted" (defArgs s_drafted) (defBody s_drafted) (defScope s_drafted) .none kV31 dc31 pm31 an31 cd31 ct31), sl31⟩) (c31 : PySem.W.codeIn K cd31 "drafted" = true) (k31 : PySem.W.keepIn K (.ref f31) = true)
    (a32 : PySem.W.nsIn K mainGlobals "why" = some (some (.ref f32))) (l32 : K.lookup f32 = some ⟨oc32, od32, .func (PySem.W.fnOf "why" "why" (defArgs s_why) (defBody s_why) (defScope s_why) .none kV32 dc32 pm32 an32 cd32 ct32), sl32⟩) (c32 : PySem.W.codeIn K cd32 "why" = true) (k32 : PySem.W.keepIn K (.ref f32) = true)
    (a33 : PySem.W.nsIn K mainGlobals "stuck" = some (some (.ref f33))) (l33 : K.lookup f33 = some ⟨oc33, od33, .func (PySem.W.fnOf "stuck" "stuck" (defArgs s_stuck) (defBody s_stuck) (defScope s_stuck) .none kV33 dc33 pm33 an33 cd33 ct33), sl33⟩) (c33 : PySem.W.codeIn K cd33 "stuck" = true) (k33 : PySem.W.keepIn K (.ref f33) = true)
    (a34 : PySem.W.nsIn K mainGlobals "is_letters" = some (some (.ref f34))) (l34 : K.lookup f34 = some ⟨oc34, od34, .func (PySem.W.fnOf "is_letters" "is_letters" (defArgs s_is_letters) (defBody s_is_letters) (defScope s_is_letters) .none kV34 dc34 pm34 an34 cd34 ct34), sl34⟩) (c34 : PySem.W.codeIn K cd34 "is_letters" = true) (k34 : PySem.W.keepIn K (.ref f34) = true)
    (a35 : PySem.W.nsIn K mainGlobals "is_name" = some (some (.ref f35))) (l35 : K.lookup f35 = some ⟨oc35, od35, .func (PySem.W.fnOf "is_name" "is_name" (defArgs s_is_name) (defBody s_is_name) (defScope s_is_name) .none kV35 dc35 pm35 an35 cd35 ct35), sl35⟩) (c35 : PySem.W.codeIn K cd35 "is_name" = true) (k35 : PySem.W.keepIn K (.ref f35) = true)
    (a36 : PySem.W.nsIn K mainGlobals "is_plan" = some (some (.ref f36))) (l36 : K.lookup f36 = some ⟨oc36, od36, .func (PySem.W.fnOf "is_plan" "is_plan" (defArgs s_is_plan) (defBody s_is_plan) (defScope s_is_plan) .none kV36 dc36 pm36 an36 cd36 ct36), sl36⟩) (c36 : PySem.W.codeIn K cd36 "is_plan" = true) (k36 : PySem.W.keepIn K (.ref f36) = true)
    (a37 : PySem.W.nsIn K mainGlobals "member_fits" = some (some (.ref f37))) (l37 : K.lookup f37 = some ⟨oc37, od37, .func (PySem.W.fnOf "member_fits" "member_fits" (defArgs s_member_fits) (defBody s_member_fits) (defScope s_member_fits) .none kV37 dc37 pm37 an37 cd37 ct37), sl37⟩) (c37 : PySem.W.codeIn K cd37 "member_fits" = true) (k37 : PySem.W.keepIn K (.ref f37) = true)
    (a38 : PySem.W.nsIn K mainGlobals "has_group_form" = some (some (.ref f38))) (l38 : K.lookup f38 = some ⟨oc38, od38, .func (PySem.W.fnOf "has_group_form" "has_group_form" (defArgs s_has_group_form) (defBody s_has_group_form) (defScope s_has_group_form) .none kV38 dc38 pm38 an38 cd38 ct38), sl38⟩) (c38 : PySem.W.codeIn K cd38 "has_group_form" = true) (k38 : PySem.W.keepIn K (.ref f38) = true)
    (a39 : PySem.W.nsIn K mainGlobals "hands_of" = some (some (.ref f39))) (l39 : K.lookup f39 = some ⟨oc39, od39, .func (PySem.W.fnOf "hands_of" "hands_of" (defArgs s_hands_of) (defBody s_hands_of) (defScope s_hands_of) .none kV39 dc39 pm39 an39 cd39 ct39), sl39⟩) (c39 : PySem.W.codeIn K cd39 "hands_of" = true) (k39 : PySem.W.keepIn K (.ref f39) = true)
    (a40 : PySem.W.nsIn K mainGlobals "groups_of" = some (some (.ref f40))) (l40 : K.lookup f40 = some ⟨oc40, od40, .func (PySem.W.fnOf "groups_of" "groups_of" (defArgs s_groups_of) (defBody s_groups_of) (defScope s_groups_of) .none kV40 dc40 pm40 an40 cd40 ct40), sl40⟩) (c40 : PySem.W.codeIn K cd40 "groups_of" = true) (k40 : PySem.W.keepIn K (.ref f40) = true)
    (a41 : PySem.W.nsIn K mainGlobals "bounds_of" = some (some (.ref f41))) (l41 : K.lookup f41 = some ⟨oc41, od41, .func (PySem.W.fnOf "bounds_of" "bounds_of" (defArgs s_bounds_of) (defBody s_bounds_of) (defScope s_bounds_of) .none kV41 dc41 pm41 an41 cd41 ct41), sl41⟩) (c41 : PySem.W.codeIn K cd41 "bounds_of" = true) (k41 : PySem.W.keepIn K (.ref f41) = true)
    (a42 : PySem.W.nsIn K mainGlobals "all_in" = some (some (.ref f42))) (l42 : K.lookup f42 = some ⟨oc42, od42, .func (PySem.W.fnOf "all_in" "all_in" (defArgs s_all_in) (defBody s_all_in) (defScope s_all_in) .none kV42 dc42 pm42 an42 cd42 ct42), sl42⟩) (c42 : PySem.W.codeIn K cd42 "all_in" = true) (k42 : PySem.W.keepIn K (.ref f42) = true)
    (a43 : PySem.W.nsIn K mainGlobals "all_from" = some (some (.ref f43))) (l43 : K.lookup f43 = some ⟨oc43, od43, .func (PySem.W.fnOf "all_from" "all_from" (defArgs s_all_from) (defBody s_all_from) (defScope s_all_from) .none kV43 dc43 pm43 an43 cd43 ct43), sl43⟩) (c43 : PySem.W.codeIn K cd43 "all_from" = true) (k43 : PySem.W.keepIn K (.ref f43) = true)
    (a44 : PySem.W.nsIn K mainGlobals "is_row_number" = some (some (.ref f44))) (l44 : K.lookup f44 = some ⟨oc44, od44, .func (PySem.W.fnOf "is_row_number" "is_row_number" (defArgs s_is_row_number) (defBody s_is_row_number) (defScope s_is_row_number) .none kV44 dc44 pm44 an44 cd44 ct44), sl44⟩) (c44 : PySem.W.codeIn K cd44 "is_row_number" = true) (k44 : PySem.W.keepIn K (.ref f44) = true)
    (a45 : PySem.W.nsIn K mainGlobals "word_fits" = some (some (.ref f45))) (l45 : K.lookup f45 = some ⟨oc45, od45, .func (PySem.W.fnOf "word_fits" "word_fits" (defArgs s_word_fits) (defBody s_word_fits) (defScope s_word_fits) .none kV45 dc45 pm45 an45 cd45 ct45), sl45⟩) (c45 : PySem.W.codeIn K cd45 "word_fits" = true) (k45 : PySem.W.keepIn K (.ref f45) = true)
    (a46 : PySem.W.nsIn K mainGlobals "take_fits" = some (some (.ref f46))) (l46 : K.lookup f46 = some ⟨oc46, od46, .func (PySem.W.fnOf "take_fits" "take_fits" (defArgs s_take_fits) (defBody s_take_fits) (defScope s_take_fits) .none kV46 dc46 pm46 an46 cd46 ct46), sl46⟩) (c46 : PySem.W.codeIn K cd46 "take_fits" = true) (k46 : PySem.W.keepIn K (.ref f46) = true)
    (a47 : PySem.W.nsIn K mainGlobals "say_fits" = some (some (.ref f47))) (l47 : K.lookup f47 = some ⟨oc47, od47, .func (PySem.W.fnOf "say_fits" "say_fits" (defArgs s_say_fits) (defBody s_say_fits) (defScope s_say_fits) .none kV47 dc47 pm47 an47 cd47 ct47), sl47⟩) (c47 : PySem.W.codeIn K cd47 "say_fits" = true) (k47 : PySem.W.keepIn K (.ref f47) = true)
    (a48 : PySem.W.nsIn K mainGlobals "goto_fits" = some (some (.ref f48))) (l48 : K.lookup f48 = some ⟨oc48, od48, .func (PySem.W.fnOf "goto_fits" "goto_fits" (defArgs s_goto_fits) (defBody s_goto_fits) (defScope s_goto_fits) .none kV48 dc48 pm48 an48 cd48 ct48), sl48⟩) (c48 : PySem.W.codeIn K cd48 "goto_fits" = true) (k48 : PySem.W.keepIn K (.ref f48) = true)
    (a49 : PySem.W.nsIn K mainGlobals "if_fits" = some (some (.ref f49))) (l49 : K.lookup f49 = some ⟨oc49, od49, .func (PySem.W.fnOf "if_fits" "if_fits" (defArgs s_if_fits) (defBody s_if_fits) (defScope s_if_fits) .none kV49 dc49 pm49 an49 cd49 ct49), sl49⟩) (c49 : PySem.W.codeIn K cd49 "if_fits" = true) (k49 : PySem.W.keepIn K (.ref f49) = true)
    (a50 : PySem.W.nsIn K mainGlobals "is_program" = some (some (.ref f50))) (l50 : K.lookup f50 = some ⟨oc50, od50, .func (PySem.W.fnOf "is_program" "is_program" (defArgs s_is_program) (defBody s_is_program) (defScope s_is_program) .none kV50 dc50 pm50 an50 cd50 ct50), sl50⟩) (c50 : PySem.W.codeIn K cd50 "is_program" = true) (k50 : PySem.W.keepIn K (.ref f50) = true)
    (a51 : PySem.W.nsIn K mainGlobals "row_fits" = some (some (.ref f51))) (l51 : K.lookup f51 = some ⟨oc51, od51, .func (PySem.W.fnOf "row_fits" "row_fits" (defArgs s_row_fits) (defBody s_row_fits) (defScope s_row_fits) .none kV51 dc51 pm51 an51 cd51 ct51), sl51⟩) (c51 : PySem.W.codeIn K cd51 "row_fits" = true) (k51 : PySem.W.keepIn K (.ref f51) = true)
    (a52 : PySem.W.nsIn K mainGlobals "is_book" = some (some (.ref f52))) (l52 : K.lookup f52 = some ⟨oc52, od52, .func (PySem.W.fnOf "is_book" "is_book" (defArgs s_is_book) (defBody s_is_book) (defScope s_is_book) .none kV52 dc52 pm52 an52 cd52 ct52), sl52⟩) (c52 : PySem.W.codeIn K cd52 "is_book" = true) (k52 : PySem.W.keepIn K (.ref f52) = true)
    (a53 : PySem.W.nsIn K mainGlobals "pair_fits" = some (some (.ref f53))) (l53 : K.lookup f53 = some ⟨oc53, od53, .func (PySem.W.fnOf "pair_fits" "pair_fits" (defArgs s_pair_fits) (defBody s_pair_fits) (defScope s_pair_fits) .none kV53 dc53 pm53 an53 cd53 ct53), sl53⟩) (c53 : PySem.W.codeIn K cd53 "pair_fits" = true) (k53 : PySem.W.keepIn K (.ref f53) = true)
    (a54 : PySem.W.nsIn K mainGlobals "_law_box" = some (some (.ref f54))) (l54 : K.lookup f54 = some ⟨oc54, od54, .func (PySem.W.fnOf "_law_box" "_law_box" (defArgs s__law_box) (defBody s__law_box) (defScope s__law_box) .none kV54 dc54 pm54 an54 cd54 ct54), sl54⟩) (c54 : PySem.W.codeIn K cd54 "_law_box" = true) (k54 : PySem.W.keepIn K (.ref f54) = true)
    (a55 : PySem.W.nsIn K mainGlobals "_law_take" = some (some (.ref f55))) (l55 : K.lookup f55 = some ⟨oc55, od55, .func (PySem.W.fnOf "_law_take" "_law_take" (defArgs s__law_take) (defBody s__law_take) (defScope s__law_take) .none kV55 dc55 pm55 an55 cd55 ct55), sl55⟩) (c55 : PySem.W.codeIn K cd55 "_law_take" = true) (k55 : PySem.W.keepIn K (.ref f55) = true)
    (a56 : PySem.W.nsIn K mainGlobals "_law_pick" = some (some (.ref f56))) (l56 : K.lookup f56 = some ⟨oc56, od56, .func (PySem.W.fnOf "_law_pick" "_law_pick" (defArgs s__law_pick) (defBody s__law_pick) (defScope s__law_pick) .none kV56 dc56 pm56 an56 cd56 ct56), sl56⟩) (c56 : PySem.W.codeIn K cd56 "_law_pick" = true) (k56 : PySem.W.keepIn K (.ref f56) = true)
    (a57 : PySem.W.nsIn K mainGlobals "_law_plan" = some (some (.ref f57))) (l57 : K.lookup f57 = some ⟨oc57, od57, .func (PySem.W.fnOf "_law_plan" "_law_plan" (defArgs s__law_plan) (defBody s__law_plan) (defScope s__law_plan) .none kV57 dc57 pm57 an57 cd57 ct57), sl57⟩) (c57 : PySem.W.codeIn K cd57 "_law_plan" = true) (k57 : PySem.W.keepIn K (.ref f57) = true)
    (a58 : PySem.W.nsIn K mainGlobals "_law_in" = some (some (.ref f58))) (l58 : K.lookup f58 = some ⟨oc58, od58, .func (PySem.W.fnOf "_law_in" "_law_in" (defArgs s__law_in) (defBody s__law_in) (defScope s__law_in) .none kV58 dc58 pm58 an58 cd58 ct58), sl58⟩) (c58 : PySem.W.codeIn K cd58 "_law_in" = true) (k58 : PySem.W.keepIn K (.ref f58) = true)
    (a59 : PySem.W.nsIn K mainGlobals "_law_alike" = some (some (.ref f59))) (l59 : K.lookup f59 = some ⟨oc59, od59, .func (PySem.W.fnOf "_law_alike" "_law_alike" (defArgs s__law_alike) (defBody s__law_alike) (defScope s__law_alike) .none kV59 dc59 pm59 an59 cd59 ct59), sl59⟩) (c59 : PySem.W.codeIn K cd59 "_law_alike" = true) (k59 : PySem.W.keepIn K (.ref f59) = true)
    (a60 : PySem.W.nsIn K mainGlobals "_law_short" = some (some (.ref f60))) (l60 : K.lookup f60 = some ⟨oc60, od60, .func (PySem.W.fnOf "_law_short" "_law_short" (defArgs s__law_short) (defBody s__law_short) (defScope s__law_short) .none kV60 dc60 pm60 an60 cd60 ct60), sl60⟩) (c60 : PySem.W.codeIn K cd60 "_law_short" = true) (k60 : PySem.W.keepIn K (.ref f60) = true)
    (a61 : PySem.W.nsIn K mainGlobals "_law_movers" = some (some (.ref f61))) (l61 : K.lookup f61 = some ⟨oc61, od61, .func (PySem.W.fnOf "_law_movers" "_law_movers" (defArgs s__law_movers) (defBody s__law_movers) (defScope s__law_movers) .none kV61 dc61 pm61 an61 cd61 ct61), sl61⟩) (c61 : PySem.W.codeIn K cd61 "_law_movers" = true) (k61 : PySem.W.keepIn K (.ref f61) = true)
    (a62 : PySem.W.nsIn K mainGlobals "_law_right" = some (some (.ref f62))) (l62 : K.lookup f62 = some ⟨oc62, od62, .func (PySem.W.fnOf "_law_right" "_law_right" (defArgs s__law_right) (defBody s__law_right) (defScope s__law_right) .none kV62 dc62 pm62 an62 cd62 ct62), sl62⟩) (c62 : PySem.W.codeIn K cd62 "_law_right" = true) (k62 : PySem.W.keepIn K (.ref f62) = true)
    (a63 : PySem.W.nsIn K mainGlobals "law" = some (some (.ref f63))) (l63 : K.lookup f63 = some ⟨oc63, od63, .func (PySem.W.fnOf "law" "law" (defArgs s_law) (defBody s_law) (defScope s_law) .none kV63 dc63 pm63 an63 cd63 ct63), sl63⟩) (c63 : PySem.W.codeIn K cd63 "law" = true) (k63 : PySem.W.keepIn K (.ref f63) = true)
    (a64 : PySem.W.findIn K (.ref C_House) "__init__" = some (some (.ref f64))) (i64 : PySem.W.isFn K (.ref f64) = true) (l64 : K.lookup f64 = some ⟨oc64, od64, .func (PySem.W.fnOf "__init__" "House.__init__" (defArgs s_House___init__) (defBody s_House___init__) (defScope s_House___init__) .none kV64 dc64 pm64 an64 cd64 ct64), sl64⟩) (c64 : PySem.W.codeIn K cd64 "House.__init__" = true) (k64 : PySem.W.keepIn K (.ref f64) = true)
    (a65 : PySem.W.findIn K (.ref C_House) "hand" = some (some (.ref f65))) (i65 : PySem.W.isFn K (.ref f65) = true) (l65 : K.lookup f65 = some ⟨oc65, od65, .func (PySem.W.fnOf "hand" "House.hand" (defArgs s_House_hand) (defBody s_House_hand) (defScope s_House_hand) .none kV65 dc65 pm65 an65 cd65 ct65), sl65⟩) (c65 : PySem.W.codeIn K cd65 "House.hand" = true) (k65 : PySem.W.keepIn K (.ref f65) = true)
    (a66 : PySem.W.findIn K (.ref C_House) "within" = some (some (.ref f66))) (i66 : PySem.W.isFn K (.ref f66) = true) (l66 : K.lookup f66 = some ⟨oc66, od66, .func (PySem.W.fnOf "within" "House.within" (defArgs s_House_within) (defBody s_House_within) (defScope s_House_within) .none kV66 dc66 pm66 an66 cd66 ct66), sl66⟩) (c66 : PySem.W.codeIn K cd66 "House.within" = true) (k66 : PySem.W.keepIn K (.ref f66) = true)
    (a67 : PySem.W.findIn K (.ref C_House) "twin" = some (some (.ref f67))) (i67 : PySem.W.isFn K (.ref f67) = true) (l67 : K.lookup f67 = some ⟨oc67, od67, .func (PySem.W.fnOf "twin" "House.twin" (defArgs s_House_twin) (defBody s_House_twin) (defScope s_House_twin) .none kV67 dc67 pm67 an67 cd67 ct67), sl67⟩) (c67 : PySem.W.codeIn K cd67 "House.twin" = true) (k67 : PySem.W.keepIn K (.ref f67) = true)
    (a68 : PySem.W.findIn K (.ref C_House) "step" = some (some (.ref f68))) (i68 : PySem.W.isFn K (.ref f68) = true) (l68 : K.lookup f68 = some ⟨oc68, od68, .func (PySem.W.fnOf "step" "House.step" (defArgs s_House_step) (defBody s_House_step) (defScope s_House_step) .none kV68 dc68 pm68 an68 cd68 ct68), sl68⟩) (c68 : PySem.W.codeIn K cd68 "House.step" = true) (k68 : PySem.W.keepIn K (.ref f68) = true)
    (a69 : PySem.W.findIn K (.ref C_House) "__eq__" = some (some (.ref f69))) (i69 : PySem.W.isFn K (.ref f69) = true) (l69 : K.lookup f69 = some ⟨oc69, od69, .func (PySem.W.fnOf "__eq__" "House.__eq__" (defArgs s_House___eq__) (defBody s_House___eq__) (defScope s_House___eq__) .none kV69 dc69 pm69 an69 cd69 ct69), sl69⟩) (c69 : PySem.W.codeIn K cd69 "House.__eq__" = true) (k69 : PySem.W.keepIn K (.ref f69) = true)
    (a70 : PySem.W.findIn K (.ref C_Draft) "__init__" = some (some (.ref f70))) (i70 : PySem.W.isFn K (.ref f70) = true) (l70 : K.lookup f70 = some ⟨oc70, od70, .func (PySem.W.fnOf "__init__" "Draft.__init__" (defArgs s_Draft___init__) (defBody s_Draft___init__) (defScope s_Draft___init__) .none kV70 dc70 pm70 an70 cd70 ct70), sl70⟩) (c70 : PySem.W.codeIn K cd70 "Draft.__init__" = true) (k70 : PySem.W.keepIn K (.ref f70) = true)
    (z0 : PySem.W.nsIn K mainGlobals "abs" = some none)
    (z1 : PySem.W.nsIn K mainGlobals "all" = some none)
    (z2 : PySem.W.nsIn K mainGlobals "any" = some none)
    (z3 : PySem.W.nsIn K mainGlobals "bool" = some none)
    (z4 : PySem.W.nsIn K mainGlobals "dict" = some none)
    (z5 : PySem.W.nsIn K mainGlobals "int" = some none)
    (z6 : PySem.W.nsIn K mainGlobals "isinstance" = some none)
    (z7 : PySem.W.nsIn K mainGlobals "len" = some none)
    (z8 : PySem.W.nsIn K mainGlobals "min" = some none)
    (z9 : PySem.W.nsIn K mainGlobals "range" = some none)
    (z10 : PySem.W.nsIn K mainGlobals "sorted" = some none)
    (z11 : PySem.W.nsIn K mainGlobals "str" = some none)
    (z12 : PySem.W.nsIn K mainGlobals "tuple" = some none)
    (z13 : PySem.W.nsIn K mainGlobals "zip" = some none)
    {tL tN tB : Tok} (cL : PySem.W.nsIn K mainGlobals "LETTERS" = some (some (.str "abcdefghijklmnopqrstuvwxyz" tL))) (cN : PySem.W.nsIn K mainGlobals "LONGEST_NAME" = some (some (.int 8 tN))) (cB : PySem.W.nsIn K mainGlobals "LEAST_BOUND" = some (some (.int 1 tB)))
    {tM : Tok} (cM : PySem.W.nsIn K mainGlobals "MOST_SAID" = some (some (.int 99 tM))) {aF : Addr} {e1 e2 e3 e4 e5 e6 : DictEntry} {nF : Nat} {t1 t2 t3 t4 t5 t6 : Tok} (cF : PySem.W.nsIn K mainGlobals "FORMS" = some (some (.ref aF)))
    (lF : K.lookup aF = some ⟨.type "dict", none, .dict #[e1, e2, e3, e4, e5, e6] nF, #[]⟩) (kF : PySem.W.KeysLit w.params [e1, e2, e3, e4, e5, e6]) (lowF : (aF == sysModules) = false)
    (q1 : e1.key = .str "take" t1) (q2 : e2.key = .str "try" t2) (q3 : e3.key = .str "let" t3) (q4 : e4.key = .str "say" t4) (q5 : e5.key = .str "goto" t5) (q6 : e6.key = .str "if" t6)
    (v1 : e1.val = .ref f46) (v2 : e2.val = .ref f45) (v3 : e3.val = .ref f45) (v4 : e4.val = .ref f47) (v5 : e5.val = .ref f48) (v6 : e6.val = .ref f49) (nd : [f46, f45, f47, f48, f49].Nodup)
    {aR : Addr} {r1 r2 r3 r4 r5 r6 : DictEntry} {nR : Nat} {u1 u2 u3 u4 u5 u6 : Tok} (cR : PySem.W.nsIn K mainGlobals "ROWS" = some (some (.ref aR)))
    (lR : K.lookup aR = some ⟨.type "dict", none, .dict #[r1, r2, r3, r4, r5, r6] nR, #[]⟩) (kR : PySem.W.KeysLit w.params [r1, r2, r3, r4, r5, r6]) (lowR : (aR == sysModules) = false)
    (qr1 : r1.key = .str "take" u1) (qr2 : r2.key = .str "try" u2) (qr3 : r3.key = .str "let" u3) (qr4 : r4.key = .str "say" u4) (qr5 : r5.key = .str "goto" u5) (qr6 : r6.key = .str "if" u6)
    (vr1 : r1.val = .ref f22) (vr2 : r2.val = .ref f23) (vr3 : r3.val = .ref f24) (vr4 : r4.val = .ref f25) (vr5 : r5.val = .ref f26) (vr6 : r6.val = .ref f27) (nd2 : [f22, f23, f24, f25, f26, f27].Nodup)
    {aH : Addr} {h1 h2 h3 h4 : DictEntry} {nH : Nat} {w1 w2 w3 w4 : Tok} (cH : PySem.W.nsIn K mainGlobals "HOWS" = some (some (.ref aH)))
    (lH : K.lookup aH = some ⟨.type "dict", none, .dict #[h1, h2, h3, h4] nH, #[]⟩) (kH : PySem.W.KeysLit w.params [h1, h2, h3, h4]) (lowH : (aH == sysModules) = false)
    (qh1 : h1.key = .str "out" w1) (qh2 : h2.key = .str "loose" w2) (qh3 : h3.key = .str "waits" w3) (qh4 : h4.key = .str "within" w4)
    (vh1 : h1.val = .ref f28) (vh2 : h2.val = .ref f29) (vh3 : h3.val = .ref f30) (vh4 : h4.val = .ref f28) (nd3 : [f28, f29, f30].Nodup)
    (icA : PySem.W.findIn K (.ref C_House) "__class__" = some (some (.builtin "object.__class__"))) (icM : PySem.W.mroIn K C_House (.type "object") = some true) (icN : PySem.W.findIn K (.ref C_House) "__ne__" = some (some (.builtin "object.__ne__"))) (icG : PySem.W.specialIn K (.builtin "object.__class__") "__get__" = some (some (.builtin "getset_descriptor.__get__"))) (icT : PySem.W.takesIn K (.builtin "object.__class__") = some true) :
    ∃ fd : FuncData, (∀ (s : Shared) (v : Value), BindsTo s fd ⟨[v], []⟩ [("_law_script", v)]) ∧ ∀ base : Heap, K.In base → base.Ns mainGlobals mg → FnG l.prog w K mg base 21 fa fd ["_law_script"] (spLaw K) := by
  have e := hfa.symm.trans (PySem.W.mg_of X G a63)
  cases e
  refine ⟨PySem.W.fnOf "law" "law" (defArgs s_law) (defBody s_law) (defScope s_law) .none kV63 dc63 pm63 an63 cd63 ct63, fun s v => .of_eq rfl, fun base _ _ => ?_⟩
  exact ok_law (T := {
    C_Draft := C_Draft, cl_Draft := ⟨pg_Draft, hd_Draft, po_Draft, sa_Draft⟩, mc_Draft := PySem.W.mg_of X G aC_Draft,
    na_Draft_paths := na_Draft_paths,
    na_Draft_bounds := na_Draft_bounds,
    na_Draft_programs := na_Draft_programs,
    na_Draft_hands := na_Draft_hands,
    na_Draft_groups := na_Draft_groups,
    na_Draft_told := na_Draft_told,
    na_Draft_firsts := na_Draft_firsts,
    C_House := C_House, cl_House := ⟨pg_House, hd_House, po_House, sa_House⟩, mc_House := PySem.W.mg_of X G aC_House,
    na_House_plan := na_House_plan,
    na_House_book := na_House_book,
    na_House_paths := na_House_paths,
    na_House_bounds := na_House_bounds,
    na_House_programs := na_House_programs,
    na_House_hands := na_House_hands,
    na_House_groups := na_House_groups,
    f_within_of := f0, d_within_of := _, F_within_of := fun_mk (st := s_within_of) l0 c0 k0, m_within_of := PySem.W.mg_of X G a0,
    f_is_loose := f1, d_is_loose := _, F_is_loose := fun_mk (st := s_is_loose) l1 c1 k1, m_is_loose := PySem.W.mg_of X G a1,
    f_give_lock := f2, d_give_lock := _, F_give_lock := fun_mk (st := s_give_lock) l2 c2 k2, m_give_lock := PySem.W.mg_of X G a2,
    f_add_place := f3, d_add_place := _, F_add_place := fun_mk (st := s_add_place) l3 c3 k3, m_add_place := PySem.W.mg_of X G a3,
    f_stand := f4, d_stand := _, F_stand := fun_mk (st := s_stand) l4 c4 k4, m_stand := PySem.W.mg_of X G a4,
    f_let_go := f5, d_let_go := _, F_let_go := fun_mk (st := s_let_go) l5 c5 k5, m_let_go := PySem.W.mg_of X G a5,
    f_is_below := f6, d_is_below := _, F_is_below := fun_mk (st := s_is_below) l6 c6 k6, m_is_below := PySem.W.mg_of X G a6,
    f_pass_left := f7, d_pass_left := _, F_pass_left := fun_mk (st := s_pass_left) l7 c7 k7, m_pass_left := PySem.W.mg_of X G a7,
    f_hand_on := f8, d_hand_on := _, F_hand_on := fun_mk (st := s_hand_on) l8 c8 k8, m_hand_on := PySem.W.mg_of X G a8,
    f_hand_near := f9, d_hand_near := _, F_hand_near := fun_mk (st := s_hand_near) l9 c9 k9, m_hand_near := PySem.W.mg_of X G a9,
    f_hand_over := f10, d_hand_over := _, F_hand_over := fun_mk (st := s_hand_over) l10 c10 k10, m_hand_over := PySem.W.mg_of X G a10,
    f_make_bare := f11, d_make_bare := _, F_make_bare := fun_mk (st := s_make_bare) l11 c11 k11, m_make_bare := PySem.W.mg_of X G a11,
    f_leave := f12, d_leave := _, F_leave := fun_mk (st := s_leave) l12 c12 k12, m_leave := PySem.W.mg_of X G a12,
    f_leave_row := f13, d_leave_row := _, F_leave_row := fun_mk (st := s_leave_row) l13 c13 k13, m_leave_row := PySem.W.mg_of X G a13,
    f_places_without := f14, d_places_without := _, F_places_without := fun_mk (st := s_places_without) l14 c14 k14, m_places_without := PySem.W.mg_of X G a14,
    f_is_whole := f15, d_is_whole := _, F_is_whole := fun_mk (st := s_is_whole) l15 c15 k15, m_is_whole := PySem.W.mg_of X G a15,
    f_is_whole_from := f16, d_is_whole_from := _, F_is_whole_from := fun_mk (st := s_is_whole_from) l16 c16 k16, m_is_whole_from := PySem.W.mg_of X G a16,
    f_is_tuple_of := f17, d_is_tuple_of := _, F_is_tuple_of := fun_mk (st := s_is_tuple_of) l17 c17 k17, m_is_tuple_of := PySem.W.mg_of X G a17,
    f_is_known := f18, d_is_known := _, F_is_known := fun_mk (st := s_is_known) l18 c18 k18, m_is_known := PySem.W.mg_of X G a18,
    f_is_within := f19, d_is_within := _, F_is_within := fun_mk (st := s_is_within) l19 c19 k19, m_is_within := PySem.W.mg_of X G a19,
    f_finish := f20, d_finish := _, F_finish := fun_mk (st := s_finish) l20 c20 k20, m_finish := PySem.W.mg_of X G a20,
    f_go := f21, d_go := _, F_go := fun_mk (st := s_go) l21 c21 k21, m_go := PySem.W.mg_of X G a21,
    f_do_take := f22, d_do_take := _, F_do_take := fun_mk (st := s_do_take) l22 c22 k22, m_do_take := PySem.W.mg_of X G a22,
    f_do_try := f23, d_do_try := _, F_do_try := fun_mk (st := s_do_try) l23 c23 k23, m_do_try := PySem.W.mg_of X G a23,
    f_do_let := f24, d_do_let := _, F_do_let := fun_mk (st := s_do_let) l24 c24 k24, m_do_let := PySem.W.mg_of X G a24,
    f_do_say := f25, d_do_say := _, F_do_say := fun_mk (st := s_do_say) l25 c25 k25, m_do_say := PySem.W.mg_of X G a25,
    f_do_goto := f26, d_do_goto := _, F_do_goto := fun_mk (st := s_do_goto) l26 c26 k26, m_do_goto := PySem.W.mg_of X G a26,
    f_do_if := f27, d_do_if := _, F_do_if := fun_mk (st := s_do_if) l27 c27 k27, m_do_if := PySem.W.mg_of X G a27,
    f_do_row := f28, d_do_row := _, F_do_row := fun_mk (st := s_do_row) l28 c28 k28, m_do_row := PySem.W.mg_of X G a28,
    f_do_tie := f29, d_do_tie := _, F_do_tie := fun_mk (st := s_do_tie) l29 c29 k29, m_do_tie := PySem.W.mg_of X G a29,
    f_do_look := f30, d_do_look := _, F_do_look := fun_mk (st := s_do_look) l30 c30 k30, m_do_look := PySem.W.mg_of X G a30,
    f_drafted := f31, d_drafted := _, F_drafted := fun_mk (st := s_drafted) l31 c31 k31, m_drafted := PySem.W.mg_of X G a31,
    f_why := f32, d_why := _, F_why := fun_mk (st := s_why) l32 c32 k32, m_why := PySem.W.mg_of X G a32,
    f_stuck := f33, d_stuck := _, F_stuck := fun_mk (st := s_stuck) l33 c33 k33, m_stuck := PySem.W.mg_of X G a33,
    f_is_letters := f34, d_is_letters := _, F_is_letters := fun_mk (st := s_is_letters) l34 c34 k34, m_is_letters := PySem.W.mg_of X G a34,
    f_is_name := f35, d_is_name := _, F_is_name := fun_mk (st := s_is_name) l35 c35 k35, m_is_name := PySem.W.mg_of X G a35,
    f_is_plan := f36, d_is_plan := _, F_is_plan := fun_mk (st := s_is_plan) l36 c36 k36, m_is_plan := PySem.W.mg_of X G a36,
    f_member_fits := f37, d_member_fits := _, F_member_fits := fun_mk (st := s_member_fits) l37 c37 k37, m_member_fits := PySem.W.mg_of X G a37,
    f_has_group_form := f38, d_has_group_form := _, F_has_group_form := fun_mk (st := s_has_group_form) l38 c38 k38, m_has_group_form := PySem.W.mg_of X G a38,
    f_hands_of := f39, d_hands_of := _, F_hands_of := fun_mk (st := s_hands_of) l39 c39 k39, m_hands_of := PySem.W.mg_of X G a39,
    f_groups_of := f40, d_groups_of := _, F_groups_of := fun_mk (st := s_groups_of) l40 c40 k40, m_groups_of := PySem.W.mg_of X G a40,
    f_bounds_of := f41, d_bounds_of := _, F_bounds_of := fun_mk (st := s_bounds_of) l41 c41 k41, m_bounds_of := PySem.W.mg_of X G a41,
    f_all_in := f42, d_all_in := _, F_all_in := fun_mk (st := s_all_in) l42 c42 k42, m_all_in := PySem.W.mg_of X G a42,
    f_all_from := f43, d_all_from := _, F_all_from := fun_mk (st := s_all_from) l43 c43 k43, m_all_from := PySem.W.mg_of X G a43,
    f_is_row_number := f44, d_is_row_number := _, F_is_row_number := fun_mk (st := s_is_row_number) l44 c44 k44, m_is_row_number := PySem.W.mg_of X G a44,
    f_word_fits := f45, d_word_fits := _, F_word_fits := fun_mk (st := s_word_fits) l45 c45 k45, m_word_fits := PySem.W.mg_of X G a45,
    f_take_fits := f46, d_take_fits := _, F_take_fits := fun_mk (st := s_take_fits) l46 c46 k46, m_take_fits := PySem.W.mg_of X G a46,
    f_say_fits := f47, d_say_fits := _, F_say_fits := fun_mk (st := s_say_fits) l47 c47 k47, m_say_fits := PySem.W.mg_of X G a47,
    f_goto_fits := f48, d_goto_fits := _, F_goto_fits := fun_mk (st := s_goto_fits) l48 c48 k48, m_goto_fits := PySem.W.mg_of X G a48,
    f_if_fits := f49, d_if_fits := _, F_if_fits := fun_mk (st := s_if_fits) l49 c49 k49, m_if_fits := PySem.W.mg_of X G a49,
    f_is_program := f50, d_is_program := _, F_is_program := fun_mk (st := s_is_program) l50 c50 k50, m_is_program := PySem.W.mg_of X G a50,
    f_row_fits := f51, d_row_fits := _, F_row_fits := fun_mk (st := s_row_fits) l51 c51 k51, m_row_fits := PySem.W.mg_of X G a51,
    f_is_book := f52, d_is_book := _, F_is_book := fun_mk (st := s_is_book) l52 c52 k52, m_is_book := PySem.W.mg_of X G a52,
    f_pair_fits := f53, d_pair_fits := _, F_pair_fits := fun_mk (st := s_pair_fits) l53 c53 k53, m_pair_fits := PySem.W.mg_of X G a53,
    f__law_box := f54, d__law_box := _, F__law_box := fun_mk (st := s__law_box) l54 c54 k54, m__law_box := PySem.W.mg_of X G a54,
    f__law_take := f55, d__law_take := _, F__law_take := fun_mk (st := s__law_take) l55 c55 k55, m__law_take := PySem.W.mg_of X G a55,
    f__law_pick := f56, d__law_pick := _, F__law_pick := fun_mk (st := s__law_pick) l56 c56 k56, m__law_pick := PySem.W.mg_of X G a56,
    f__law_plan := f57, d__law_plan := _, F__law_plan := fun_mk (st := s__law_plan) l57 c57 k57, m__law_plan := PySem.W.mg_of X G a57,
    f__law_in := f58, d__law_in := _, F__law_in := fun_mk (st := s__law_in) l58 c58 k58, m__law_in := PySem.W.mg_of X G a58,
    f__law_alike := f59, d__law_alike := _, F__law_alike := fun_mk (st := s__law_alike) l59 c59 k59, m__law_alike := PySem.W.mg_of X G a59,
    f__law_short := f60, d__law_short := _, F__law_short := fun_mk (st := s__law_short) l60 c60 k60, m__law_short := PySem.W.mg_of X G a60,
    f__law_movers := f61, d__law_movers := _, F__law_movers := fun_mk (st := s__law_movers) l61 c61 k61, m__law_movers := PySem.W.mg_of X G a61,
    f__law_right := f62, d__law_right := _, F__law_right := fun_mk (st := s__law_right) l62 c62 k62, m__law_right := PySem.W.mg_of X G a62,
    f_law := fa, d_law := _, F_law := fun_mk (st := s_law) l63 c63 k63, m_law := PySem.W.mg_of X G a63,
    f_House___init__ := f64, d_House___init__ := _, F_House___init__ := fun_mk (st := s_House___init__) l64 c64 k64, mt_House___init__ := ⟨a64, i64, k64⟩,
    mk_House := ⟨mk_House, a64, i64, kc_House⟩,
    f_House_hand := f65, d_House_hand := _, F_House_hand := fun_mk (st := s_House_hand) l65 c65 k65, mt_House_hand := ⟨a65, i65, k65⟩,
    f_House_within := f66, d_House_within := _, F_House_within := fun_mk (st := s_House_within) l66 c66 k66, mt_House_within := ⟨a66, i66, k66⟩,
    f_House_twin := f67, d_House_twin := _, F_House_twin := fun_mk (st := s_House_twin) l67 c67 k67, mt_House_twin := ⟨a67, i67, k67⟩,
    f_House_step := f68, d_House_step := _, F_House_step := fun_mk (st := s_House_step) l68 c68 k68, mt_House_step := ⟨a68, i68, k68⟩,
    f_House___eq__ := f69, d_House___eq__ := _, F_House___eq__ := fun_mk (st := s_House___eq__) l69 c69 k69, mt_House___eq__ := ⟨a69, i69, k69⟩,
    f_Draft___init__ := f70, d_Draft___init__ := _, F_Draft___init__ := fun_mk (st := s_Draft___init__) l70 c70 k70, mt_Draft___init__ := ⟨a70, i70, k70⟩,
    mk_Draft := ⟨mk_Draft, a70, i70, kc_Draft⟩,
    z_abs := PySem.W.mg_none_of X G z0,
    z_all := PySem.W.mg_none_of X G z1,
    z_any := PySem.W.mg_none_of X G z2,
    z_bool := PySem.W.mg_none_of X G z3,
    z_dict := PySem.W.mg_none_of X G z4,
    z_int := PySem.W.mg_none_of X G z5,
    z_isinstance := PySem.W.mg_none_of X G z6,
    z_len := PySem.W.mg_none_of X G z7,
    z_min := PySem.W.mg_none_of X G z8,
    z_range := PySem.W.mg_none_of X G z9,
    z_sorted := PySem.W.mg_none_of X G z10,
    z_str := PySem.W.mg_none_of X G z11,
    z_tuple := PySem.W.mg_none_of X G z12,
    z_zip := PySem.W.mg_none_of X G z13,
    t_MOST_SAID := tM, c_MOST_SAID := PySem.W.mg_of X G cM, a_FORMS := aF, c_FORMS := PySem.W.mg_of X G cF, D_FORMS := ktab6 lF kF lowF q1 q2 q3 q4 q5 q6 v1 v2 v3 v4 v5 v6, nd := nd, t_LETTERS := tL, c_LETTERS := PySem.W.mg_of X G cL, t_LONGEST := tN, c_LONGEST := PySem.W.mg_of X G cN, t_LEAST := tB, c_LEAST := PySem.W.mg_of X G cB,
    a_ROWS := aR, c_ROWS := PySem.W.mg_of X G cR, D_ROWS := ktab6 lR kR lowR qr1 qr2 qr3 qr4 qr5 qr6 vr1 vr2 vr3 vr4 vr5 vr6, nd2 := nd2, a_HOWS := aH, c_HOWS := PySem.W.mg_of X G cH, D_HOWS := ktab4 lH kH lowH qh1 qh2 qh3 qh4 vh1 vh2 vh3 vh4, nd3 := nd3, ic_House := icA, ic_mro := icM, in_House := icN, ic_get := icG, ic_tk := icT
    })
end K41
open PySem PySem.W PyProof.Rows
set_option maxRecDepth 100000 in
set_option maxHeartbeats 0 in
theorem PySem.Challenge.cw_nearlocks_k41_houses_that_are_stuck_holds : PySem.Challenge.rw_nearlocks_k41_houses_that_are_stuck.Holds := by
  w_on; o_law; k_head; (case hw => w_witness2)
  k_fill
  refine NL.walk_y (l := PySem.Challenge.rw_nearlocks_k41_houses_that_are_stuck) (n := 63) (k := 21) (x := "_law_script") (sp := K41.spLaw) rfl (by decide) rfl (by decide +kernel) ⟨rfl, by decide, by decide⟩ (fun w h Y => PySem.W.kIn_of Y) ?F ?P
  case P =>
    intro K H a ns hl hy hS
    exact ⟨a, ns, rfl, hS, hl, hy, fun _ => rfl⟩
  case F =>
    intro w mg fa h KX G hmg
    refine' K41.all_mk KX G hmg ?aC_Draft ?pg_Draft ?hd_Draft ?po_Draft ?sa_Draft ?mk_Draft ?kc_Draft ?na_Draft_paths ?na_Draft_bounds ?na_Draft_programs ?na_Draft_hands ?na_Draft_groups ?na_Draft_told ?na_Draft_firsts ?aC_House ?pg_House ?hd_House ?po_House ?sa_House ?mk_House ?kc_House ?na_House_plan ?na_House_book ?na_House_paths ?na_House_bounds ?na_House_programs ?na_House_hands ?na_House_groups ?a0 ?l0 ?c0 ?k0 ?a1 ?l1 ?c1 ?k1 ?a2 ?l2 ?c2 ?k2 ?a3 ?l3 ?c3 ?k3 ?a4 ?l4 ?c4 ?k4 ?a5 ?l5 ?c5 ?k5 ?a6 ?l6 ?c6 ?k6 ?a7 ?l7 ?c7 ?k7 ?a8 ?l8 ?c8 ?k8 ?a9 ?l9 ?c9 ?k9 ?a10 ?l10 ?c10 ?k10 ?a11 ?l11 ?c11 ?k11 ?a12 ?l12 ?c12 ?k12 ?a13 ?l13 ?c13 ?k13 ?a14 ?l14 ?c14 ?k14 ?a15 ?l15 ?c15 ?k15 ?a16 ?l16 ?c16 ?k16 ?a17 ?l17 ?c17 ?k17 ?a18 ?l18 ?c18 ?k18 ?a19 ?l19 ?c19 ?k19 ?a20 ?l20 ?c20 ?k20 ?a21 ?l21 ?c21 ?k21 ?a22 ?l22 ?c22 ?k22 ?a23 ?l23 ?c23 ?k23 ?a24 ?l24 ?c24 ?k24 ?a25 ?l25 ?c25 ?k25 ?a26 ?l26 ?c26 ?k26 ?a27 ?l27 ?c27 ?k27 ?a28 ?l28 ?c28 ?k28 ?a29 ?l29 ?c29 ?k29 ?a30 ?l30 ?c30 ?k30 ?a31 ?l31 ?c31 ?k31 ?a32 ?l32 ?c32 ?k32 ?a33 ?l33 ?c33 ?k33 ?a34 ?l34 ?c34 ?k34 ?a35 ?l35 ?c35 ?k35 ?a36 ?l36 ?c36 ?k36 ?a37 ?l37 ?c37 ?k37 ?a38 ?l38 ?c38 ?k38 ?a39 ?l39 ?c39 ?k39 ?a40 ?l40 ?c40 ?k40 ?a41 ?l41 ?c41 ?k41 ?a42 ?l42 ?c42 ?k42 ?a43 ?l43 ?c43 ?k43 ?a44 ?l44 ?c44 ?k44 ?a45 ?l45 ?c45 ?k45 ?a46 ?l46 ?c46 ?k46 ?a47 ?l47 ?c47 ?k47 ?a48 ?l48 ?c48 ?k48 ?a49 ?l49 ?c49 ?k49 ?a50 ?l50 ?c50 ?k50 ?a51 ?l51 ?c51 ?k51 ?a52 ?l52 ?c52 ?k52 ?a53 ?l53 ?c53 ?k53 ?a54 ?l54 ?c54 ?k54 ?a55 ?l55 ?c55 ?k55 ?a56 ?l56 ?c56 ?k56 ?a57 ?l57 ?c57 ?k57 ?a58 ?l58 ?c58 ?k58 ?a59 ?l59 ?c59 ?k59 ?a60 ?l60 ?c60 ?k60 ?a61 ?l61 ?c61 ?k61 ?a62 ?l62 ?c62 ?k62 ?a63 ?l63 ?c63 ?k63 ?a64 ?i64 ?l64 ?c64 ?k64 ?a65 ?i65 ?l65 ?c65 ?k65 ?a66 ?i66 ?l66 ?c66 ?k66 ?a67 ?i67 ?l67 ?c67 ?k67 ?a68 ?i68 ?l68 ?c68 ?k68 ?a69 ?i69 ?l69 ?c69 ?k69 ?a70 ?i70 ?l70 ?c70 ?k70 ?z0 ?z1 ?z2 ?z3 ?z4 ?z5 ?z6 ?z7 ?z8 ?z9 ?z10 ?z11 ?z12 ?z13 ?cL ?cN ?cB ?cM ?cF ?lF ?kF ?lowF ?q1 ?q2 ?q3 ?q4 ?q5 ?q6 ?v1 ?v2 ?v3 ?v4 ?v5 ?v6 ?nd ?cR ?lR ?kR ?lowR ?qr1 ?qr2 ?qr3 ?qr4 ?qr5 ?qr6 ?vr1 ?vr2 ?vr3 ?vr4 ?vr5 ?vr6 ?nd2 ?cH ?lH ?kH ?lowH ?qh1 ?qh2 ?qh3 ?qh4 ?vh1 ?vh2 ?vh3 ?vh4 ?nd3 ?icA ?icM ?icN ?icG ?icT
    (case aC_Draft => k_is); (case pg_Draft => k_is); (case hd_Draft => k_is); (case po_Draft => k_is); (case sa_Draft => k_is); (case mk_Draft => k_is); (case kc_Draft => k_is)
    (case na_Draft_paths => k_is); (case na_Draft_bounds => k_is); (case na_Draft_programs => k_is); (case na_Draft_hands => k_is); (case na_Draft_groups => k_is); (case na_Draft_told => k_is); (case na_Draft_firsts => k_is)
    (case aC_House => k_is); (case pg_House => k_is); (case hd_House => k_is); (case po_House => k_is); (case sa_House => k_is); (case mk_House => k_is); (case kc_House => k_is)
    (case na_House_plan => k_is); (case na_House_book => k_is); (case na_House_paths => k_is); (case na_House_bounds => k_is); (case na_House_programs => k_is); (case na_House_hands => k_is); (case na_House_groups => k_is)
    (case a0 => k_is); (case l0 => k_is); (case c0 => k_is); (case k0 => k_is)
    (case a1 => k_is); (case l1 => k_is); (case c1 => k_is); (case k1 => k_is)
    (case a2 => k_is); (case l2 => k_is); (case c2 => k_is); (case k2 => k_is)
    (case a3 => k_is); (case l3 => k_is); (case c3 => k_is); (case k3 => k_is)
    (case a4 => k_is); (case l4 => k_is); (case c4 => k_is); (case k4 => k_is)
    (case a5 => k_is); (case l5 => k_is); (case c5 => k_is); (case k5 => k_is)
    (case a6 => k_is); (case l6 => k_is); (case c6 => k_is); (case k6 => k_is)
    (case a7 => k_is); (case l7 => k_is); (case c7 => k_is); (case k7 => k_is)
    (case a8 => k_is); (case l8 => k_is); (case c8 => k_is); (case k8 => k_is)
    (case a9 => k_is); (case l9 => k_is); (case c9 => k_is); (case k9 => k_is)
    (case a10 => k_is); (case l10 => k_is); (case c10 => k_is); (case k10 => k_is)
    (case a11 => k_is); (case l11 => k_is); (case c11 => k_is); (case k11 => k_is)
    (case a12 => k_is); (case l12 => k_is); (case c12 => k_is); (case k12 => k_is)
    (case a13 => k_is); (case l13 => k_is); (case c13 => k_is); (case k13 => k_is)
    (case a14 => k_is); (case l14 => k_is); (case c14 => k_is); (case k14 => k_is)
    (case a15 => k_is); (case l15 => k_is); (case c15 => k_is); (case k15 => k_is)
    (case a16 => k_is); (case l16 => k_is); (case c16 => k_is); (case k16 => k_is)
    (case a17 => k_is); (case l17 => k_is); (case c17 => k_is); (case k17 => k_is)
    (case a18 => k_is); (case l18 => k_is); (case c18 => k_is); (case k18 => k_is)
    (case a19 => k_is); (case l19 => k_is); (case c19 => k_is); (case k19 => k_is)
    (case a20 => k_is); (case l20 => k_is); (case c20 => k_is); (case k20 => k_is)
    (case a21 => k_is); (case l21 => k_is); (case c21 => k_is); (case k21 => k_is)
    (case a22 => k_is); (case l22 => k_is); (case c22 => k_is); (case k22 => k_is)
    (case a23 => k_is); (case l23 => k_is); (case c23 => k_is); (case k23 => k_is)
    (case a24 => k_is); (case l24 => k_is); (case c24 => k_is); (case k24 => k_is)
    (case a25 => k_is); (case l25 => k_is); (case c25 => k_is); (case k25 => k_is)
    (case a26 => k_is); (case l26 => k_is); (case c26 => k_is); (case k26 => k_is)
    (case a27 => k_is); (case l27 => k_is); (case c27 => k_is); (case k27 => k_is)
    (case a28 => k_is); (case l28 => k_is); (case c28 => k_is); (case k28 => k_is)
    (case a29 => k_is); (case l29 => k_is); (case c29 => k_is); (case k29 => k_is)
    (case a30 => k_is); (case l30 => k_is); (case c30 => k_is); (case k30 => k_is)
    (case a31 => k_is); (case l31 => k_is); (case c31 => k_is); (case k31 => k_is)
    (case a32 => k_is); (case l32 => k_is); (case c32 => k_is); (case k32 => k_is)
    (case a33 => k_is); (case l33 => k_is); (case c33 => k_is); (case k33 => k_is)
    (case a34 => k_is); (case l34 => k_is); (case c34 => k_is); (case k34 => k_is)
    (case a35 => k_is); (case l35 => k_is); (case c35 => k_is); (case k35 => k_is)
    (case a36 => k_is); (case l36 => k_is); (case c36 => k_is); (case k36 => k_is)
    (case a37 => k_is); (case l37 => k_is); (case c37 => k_is); (case k37 => k_is)
    (case a38 => k_is); (case l38 => k_is); (case c38 => k_is); (case k38 => k_is)
    (case a39 => k_is); (case l39 => k_is); (case c39 => k_is); (case k39 => k_is)
    (case a40 => k_is); (case l40 => k_is); (case c40 => k_is); (case k40 => k_is)
    (case a41 => k_is); (case l41 => k_is); (case c41 => k_is); (case k41 => k_is)
    (case a42 => k_is); (case l42 => k_is); (case c42 => k_is); (case k42 => k_is)
    (case a43 => k_is); (case l43 => k_is); (case c43 => k_is); (case k43 => k_is)
    (case a44 => k_is); (case l44 => k_is); (case c44 => k_is); (case k44 => k_is)
    (case a45 => k_is); (case l45 => k_is); (case c45 => k_is); (case k45 => k_is)
    (case a46 => k_is); (case l46 => k_is); (case c46 => k_is); (case k46 => k_is)
    (case a47 => k_is); (case l47 => k_is); (case c47 => k_is); (case k47 => k_is)
    (case a48 => k_is); (case l48 => k_is); (case c48 => k_is); (case k48 => k_is)
    (case a49 => k_is); (case l49 => k_is); (case c49 => k_is); (case k49 => k_is)
    (case a50 => k_is); (case l50 => k_is); (case c50 => k_is); (case k50 => k_is)
    (case a51 => k_is); (case l51 => k_is); (case c51 => k_is); (case k51 => k_is)
    (case a52 => k_is); (case l52 => k_is); (case c52 => k_is); (case k52 => k_is)
    (case a53 => k_is); (case l53 => k_is); (case c53 => k_is); (case k53 => k_is)
    (case a54 => k_is); (case l54 => k_is); (case c54 => k_is); (case k54 => k_is)
    (case a55 => k_is); (case l55 => k_is); (case c55 => k_is); (case k55 => k_is)
    (case a56 => k_is); (case l56 => k_is); (case c56 => k_is); (case k56 => k_is)
    (case a57 => k_is); (case l57 => k_is); (case c57 => k_is); (case k57 => k_is)
    (case a58 => k_is); (case l58 => k_is); (case c58 => k_is); (case k58 => k_is)
    (case a59 => k_is); (case l59 => k_is); (case c59 => k_is); (case k59 => k_is)
    (case a60 => k_is); (case l60 => k_is); (case c60 => k_is); (case k60 => k_is)
    (case a61 => k_is); (case l61 => k_is); (case c61 => k_is); (case k61 => k_is)
    (case a62 => k_is); (case l62 => k_is); (case c62 => k_is); (case k62 => k_is)
    (case a63 => k_is); (case l63 => k_is); (case c63 => k_is); (case k63 => k_is)
    (case a64 => k_is); (case i64 => k_is); (case l64 => k_is); (case c64 => k_is); (case k64 => k_is)
    (case a65 => k_is); (case i65 => k_is); (case l65 => k_is); (case c65 => k_is); (case k65 => k_is)
    (case a66 => k_is); (case i66 => k_is); (case l66 => k_is); (case c66 => k_is); (case k66 => k_is)
    (case a67 => k_is); (case i67 => k_is); (case l67 => k_is); (case c67 => k_is); (case k67 => k_is)
    (case a68 => k_is); (case i68 => k_is); (case l68 => k_is); (case c68 => k_is); (case k68 => k_is)
    (case a69 => k_is); (case i69 => k_is); (case l69 => k_is); (case c69 => k_is); (case k69 => k_is)
    (case a70 => k_is); (case i70 => k_is); (case l70 => k_is); (case c70 => k_is); (case k70 => k_is)
    (case z0 => k_is)
    (case z1 => k_is)
    (case z2 => k_is)
    (case z3 => k_is)
    (case z4 => k_is)
    (case z5 => k_is)
    (case z6 => k_is)
    (case z7 => k_is)
    (case z8 => k_is)
    (case z9 => k_is)
    (case z10 => k_is)
    (case z11 => k_is)
    (case z12 => k_is)
    (case z13 => k_is)
    (case cL => k_is); (case cN => k_is); (case cB => k_is)
    (case cM => k_is); (case cF => k_is); (case lF => k_is); (case kF => k_keys); (case lowF => decide)
    (case q1 => rfl); (case q2 => rfl); (case q3 => rfl); (case q4 => rfl); (case q5 => rfl); (case q6 => rfl)
    (case v1 => rfl); (case v2 => rfl); (case v3 => rfl); (case v4 => rfl); (case v5 => rfl); (case v6 => rfl); (case nd => decide)
    (case cR => k_is); (case lR => k_is); (case kR => k_keys); (case lowR => decide)
    (case qr1 => rfl); (case qr2 => rfl); (case qr3 => rfl); (case qr4 => rfl); (case qr5 => rfl); (case qr6 => rfl)
    (case vr1 => rfl); (case vr2 => rfl); (case vr3 => rfl); (case vr4 => rfl); (case vr5 => rfl); (case vr6 => rfl); (case nd2 => decide)
    (case cH => k_is); (case lH => k_is); (case kH => k_keys); (case lowH => decide)
    (case qh1 => rfl); (case qh2 => rfl); (case qh3 => rfl); (case qh4 => rfl)
    (case vh1 => rfl); (case vh2 => rfl); (case vh3 => rfl); (case vh4 => rfl); (case nd3 => decide)
    (case icA => k_is); (case icM => k_is); (case icN => k_is); (case icG => k_is); (case icT => k_is)
