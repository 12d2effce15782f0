import PyProof.Rows.All
import Wide.All
import OpenK.AllK
import Wide.FinOn
import HandS.CallLocal
import HandS.Deep
import HandS.DeepEq
import HandS.DictComp
import HandS.Evl
import HandS.Exc
import HandS.ExcField
import HandS.ExcInit
import HandS.ExcIs
import HandS.ExcOwn
import HandS.ExcValue
import HandS.FStr
import HandS.ForMost
import HandS.IsInst
import HandS.Iter
import HandS.JoinGen
import HandS.ListItems
import HandS.More
import HandS.OwnEq
import HandS.RaiseMore
import HandS.SetFor
import HandS.Star
import HandS.Strs
import HandS.Style
import HandS.Text
import HandS.TupAny
import HandS.Walk
import HandS.WordsExc
import HandS.WrittenGet
import HandS.Zip
import KE.GoesMore
import KE.KCallOwn
import KE.KDictZip
import KE.KTurns
import PySem.Challenge.RW_nearlocks_k90_book_texts_spoilt_anywhere
set_option Elab.async false
set_option linter.all false
set_option maxRecDepth 100000
set_option maxHeartbeats 4000000
/-! the ground: data of the heap, their kinds, what stays -/
namespace NL
open PySem L2 Evl
/-! ### kinds -/
def tyN : PyData → String
  | .none => "NoneType" | .bool _ => "bool" | .int _ => "int" | .str _ => "str" | .list _ => "list" | .tuple _ => "tuple" | .dict _ => "dict"
def isIntB : PyData → Bool
  | .int _ => true | .bool _ => true | _ => false
def isBoolB : PyData → Bool
  | .bool _ => true | _ => false
def isTupB : PyData → Bool
  | .tuple _ => true | _ => false
def isStrB : PyData → Bool
  | .str _ => true | _ => false
theorem kt_int (d : PyData) : kitB (tyN d) "int" = some (isIntB d) := by
  cases d
  · exact (by decide +kernel : kitB "NoneType" "int" = some false)
  · exact (by decide +kernel : kitB "bool" "int" = some true)
  · exact (by decide +kernel : kitB "int" "int" = some true)
  · exact (by decide +kernel : kitB "str" "int" = some false)
  · exact (by decide +kernel : kitB "list" "int" = some false)
  · exact (by decide +kernel : kitB "tuple" "int" = some false)
  · exact (by decide +kernel : kitB "dict" "int" = some false)
theorem kt_bool (d : PyData) : kitB (tyN d) "bool" = some (isBoolB d) := by
  cases d
  · exact (by decide +kernel : kitB "NoneType" "bool" = some false)
  · exact (by decide +kernel : kitB "bool" "bool" = some true)
  · exact (by decide +kernel : kitB "int" "bool" = some false)
  · exact (by decide +kernel : kitB "str" "bool" = some false)
  · exact (by decide +kernel : kitB "list" "bool" = some false)
  · exact (by decide +kernel : kitB "tuple" "bool" = some false)
  · exact (by decide +kernel : kitB "dict" "bool" = some false)
theorem kt_tuple (d : PyData) : kitB (tyN d) "tuple" = some (isTupB d) := by
  cases d
  · exact (by decide +kernel : kitB "NoneType" "tuple" = some false)
  · exact (by decide +kernel : kitB "bool" "tuple" = some false)
  · exact (by decide +kernel : kitB "int" "tuple" = some false)
  · exact (by decide +kernel : kitB "str" "tuple" = some false)
  · exact (by decide +kernel : kitB "list" "tuple" = some false)
  · exact (by decide +kernel : kitB "tuple" "tuple" = some true)
  · exact (by decide +kernel : kitB "dict" "tuple" = some false)
theorem kt_str (d : PyData) : kitB (tyN d) "str" = some (isStrB d) := by
  cases d
  · exact (by decide +kernel : kitB "NoneType" "str" = some false)
  · exact (by decide +kernel : kitB "bool" "str" = some false)
  · exact (by decide +kernel : kitB "int" "str" = some false)
  · exact (by decide +kernel : kitB "str" "str" = some true)
  · exact (by decide +kernel : kitB "list" "str" = some false)
  · exact (by decide +kernel : kitB "tuple" "str" = some false)
  · exact (by decide +kernel : kitB "dict" "str" = some false)
section
variable {K : PySem.W.Frag} {σ : L2.St} {H : Hp} {ta tb te : TE} {x v : V} {d : PyData}
theorem ev_lenT {p : Addr} {xs : List V} (ha : Ev ta σ H (.ref p)) (h : SqT K H p xs) : Ev (tCB (rLenS K) (tCons ta tNil)) σ H (.int (xs.length : Int)) := fun H1 e Q q =>
  ha H1 e _ fun H2 e2 => ⟨p, xs, rfl, Or.inr (ex_t (e.trans e2) h), q H2 e2⟩
theorem ev_ixT {p : Addr} {xs : List V} {i : Int} (ha : Ev ta σ H (.ref p)) (hb : Ev tb σ H (.int i)) (h : SqT K H p xs) (hi : atI xs i = some v) : Ev (tOp (rIxT K) ta tb) σ H v := ev_op ha hb (rv_ixT h hi)
theorem ev_isN (ha : Ev ta σ H x) : Ev (tIsN ta) σ H (.bl (decide (x = .non))) := fun H1 e Q q => ha H1 e _ fun H2 e2 => q H2 e2
theorem ev_eq {y : V} (ha : Ev ta σ H x) (hb : Ev tb σ H y) (h : scal x y = true) : Ev (tOp rEq ta tb) σ H (.bl (decide (x = y))) := ev_op ha hb (rv_eq h)
theorem ev_ne {y : V} (ha : Ev ta σ H x) (hb : Ev tb σ H y) (h : scal x y = true) : Ev (tOp rNe ta tb) σ H (.bl (!decide (x = y))) := ev_op ha hb (rv_ne h)
theorem ev_I0 {g : Int → Int → V} {i j : Int} (ha : Ev ta σ H (.int i)) (hb : Ev tb σ H (.int j)) : Ev (tOp (rI0 g) ta tb) σ H (g i j) := ev_op ha hb rv_I0
theorem ev_I {C : Int → Int → Prop} {g : Int → Int → V} {i j : Int} (hc : C i j) (ha : Ev ta σ H (.int i)) (hb : Ev tb σ H (.int j)) : Ev (tOp (rI C g) ta tb) σ H (g i j) := ev_op ha hb (rv_I hc)
theorem ev_allN {bs : List Bool} (ha : EvL ta σ H (bs.map V.bl)) : Ev (tCB (rAll K) (tCons ta tNil)) σ H (.bl (bs.all id)) := fun H1 e Q q =>
  ha H1 e _ fun p H2 _ e2 h2 => ⟨p, bs, rfl, sq_of h2, q H2 e2⟩
/-- a comprehension over a tuple, whose turns give or skip as told -/
theorem el_lcT {a : Addr} {xs : List V} {tl : TE} {tt : TT} {j : Nat} {vs : List Nat} (f : Nat → Bool) (g : Nat → V) (src : Ev tl σ H (.ref a)) (held : SqT K H a xs) (few : xs.length ≤ 40000) (clean : ∀ x, wipe ((wipe σ vs).set j (some x)) vs = wipe σ vs)
    (test : ∀ (i : Nat) (x : V) H1, Ex H H1 → xs[i]? = some x → EvT tt ((wipe σ vs).set j (some x)) H1 (f i)) (give : ∀ (i : Nat) (x : V) H1, Ex H H1 → xs[i]? = some x → f i = true → Ev te ((wipe σ vs).set j (some x)) H1 (g i)) :
    EvL (tLc (iTup K tl) (gName j) tt te vs) σ H (given xs.length f g) := by
  intro H0 e0 Q next
  refine src H0 e0 _ fun H1 e1 => ?_
  have e01 : Ex H H1 := e0.trans e1
  refine ⟨a, rfl, ⟨xs, ex_t e01 held⟩, fun made fresh => ?_⟩
  refine lc_tup (xs := xs) (Cw H1 f g made) ⟨fresh, Ex.new fresh, upd_same⟩ ?stays ?turn ?done
  case stays =>
    intro i H' _ inv
    exact ex_t (e01.trans inv.2.1) held
  case turn =>
    intro i x H' at_i inv
    have small : i < 50000 := by
      have := (List.getElem?_eq_some_iff.mp at_i).1
      omega
    exact ⟨clean x, cw_turn inv small (test i x H1 e01 at_i) (give i x H1 e01 at_i)⟩
  case done =>
    intro H' inv
    exact next made H' (fresh_back e1 inv.1) (e1.trans inv.2.1) inv.2.2
end
theorem s_next {D : Ends} {σ : L2.St} {H : Hp} (h : D.nx σ H) : tNext D σ H := h
theorem q_asgP {te : TE} {tz : TS} {D : Ends} {σ : L2.St} {H : Hp} {i : Nat} (h : te σ H fun v H1 => tz D (σ.set i (some v)) H1) : tSeq (tAsg te (gName i)) tz D σ H := h
theorem s_retP {te : TE} {D : Ends} {σ : L2.St} {H : Hp} (h : te σ H fun v H1 => D.rt v H1) : tRet te D σ H := h
theorem et_yes {σ : L2.St} {H : Hp} : EvT tYes σ H true := fun H1 _ _ q => q H1 (Ex.refl H1)
theorem given_all (n : Nat) (g : Nat → V) : given n (fun _ => true) g = (List.range n).map g := by
  unfold given
  rw [List.filter_eq_self.mpr (fun _ _ => rfl)]
/-! ### arguments without a star, whatever the scope -/
def noStar : Expr → Bool
  | .Starred _ _ => false
  | _ => true
theorem star1 {e : Expr} {es : List Expr} {env : Env} (h : noStar e = true) : starEach (e :: es) env = (false, eval e env) :: starEach es env := by
  cases e <;> first | rfl | cases h
theorem starAll {pos : Pos} {env : Env} : ∀ {es : List Expr}, es.all noStar = true → (backTo pos (starEach es env)).any (·.1) = false
  | [], _ => rfl
  | e :: es, h => by
    rw [List.all_cons, Bool.and_eq_true] at h
    rw [star1 h.1]
    have := starAll (pos := pos) (env := env) h.2
    unfold backTo at this ⊢
    simpa using this
/-! ### rules by a written part that is named -/
section
variable {X : Cx} {K : PySem.W.Frag}
theorem lenK (h : X.K = K) : CallR X (.builtin "len") (rLenS K) := by subst h; exact call_len_seq
theorem isiK (h : X.K = K) : CallR X (.builtin "isinstance") (rIsi K) := by subst h; exact call_isi
theorem allK (h : X.K = K) (hc : X.calm = true) : CallR X (.builtin "all") (rAll K) := by subst h; exact cr_all hc
theorem ixTK (h : X.K = K) : IxR X (rIxT K) := by subst h; exact ix_tup
theorem ixLK (h : X.K = K) : IxR X (rIxL K) := by subst h; exact ix_list
theorem eqDK (h : X.K = K) (hu : X.A.units + 64 < cLine) : OpR X (compareOp .Eq) (rEqD K) := by subst h; exact op_eqD hu
theorem neDK (h : X.K = K) (hu : X.A.units + 64 < cLine) : OpR X (compareOp .NotEq) (rNeD K) := by subst h; exact op_neD hu
end
/-! ### a dict of the module, asked by any text -/
def KTab (K : PySem.W.Frag) (w : World) (a : Addr) (f : Str → Option Value) : Prop :=
  ∃ es n, K.lookup a = some ⟨.type "dict", none, .dict es n, #[]⟩ ∧ PySem.W.KeysLit w.params es.toList ∧ (a == sysModules) = false ∧ ∀ z, PySem.W.nsIn K a z = some (f z)
def rNotInK (K : PySem.W.Frag) (w : World) : R2 := fun x y H Q => ∃ p z f, x = .str z ∧ y = .ref p ∧ KTab K w p f ∧ Q (.bl (!(f z).isSome)) H
section
variable {X : Cx}
theorem op_notInK : OpR X (compareOp .NotIn) (rNotInK X.K X.w) := by
  intro pins s σ H x y v u Q I rx ry h
  obtain ⟨p, z, f, rfl, rfl, ⟨es, n, hl, hk, low, hf⟩, q⟩ := h
  obtain rfl : u = Value.ref p := ry
  obtain ⟨t, rfl⟩ := rx
  have hm := PySem.W.mapOf_K (prog := X.prog) (w := X.w) I.kIn hl hk
  refine wpAny_notIn_of (strKind_is X.prog X.w z t) low hm ?_
  rw [PySem.W.find_K hl (hf z)]
  exact ⟨.bl _, H, I.tok _, rfl, q⟩
end
theorem rv_ixD {K : PySem.W.Frag} {w : World} {H : Hp} {p : Addr} {z : Str} {f : Str → Option Value} {a : Addr} (h : KTab K w p f) (e : f z = some (.ref a)) : RV (rIxD K w) (.ref p) (.str z) H (.ref a) := fun H1 _ _ q => by
  obtain ⟨es, n, hl, hk, _, hf⟩ := h
  exact ⟨p, z, .ref a, rfl, rfl, ⟨es, n, .ref a, hl, hk, by rw [hf z, e], rfl⟩, q H1 (Ex.refl H1)⟩
theorem rv_notInK {K : PySem.W.Frag} {w : World} {H : Hp} {p : Addr} {z : Str} {f : Str → Option Value} (h : KTab K w p f) : RV (rNotInK K w) (.str z) (.ref p) H (.bl (!(f z).isSome)) := fun H1 _ _ q => ⟨p, z, f, rfl, rfl, h, q H1 (Ex.refl H1)⟩
end NL
/-! the drawing hand: a list of a list of cells and a seed; what stays while it draws -/
namespace NL
open PySem L2 Evl
structure HandAt (H : Hp) (h l : Addr) (cs : List Int) (sd : Int) : Prop where
  hh : H h = some (.lst [.ref l, .int sd])
  hl : H l = some (.lst (cs.map V.int))
  lo : 0 ≤ sd
  hi : sd < 2305843009213693951
  few : cs.length ≤ 63
  pos : ∀ c ∈ cs, 0 ≤ c
def Hand (H : Hp) (h l : Addr) : Prop := ∃ cs sd, HandAt H h l cs sd
def Kp (h l : Addr) (H H' : Hp) : Prop := ∀ a o, a ≠ h → a ≠ l → H a = some o → H' a = some o
theorem Kp.refl (h l : Addr) (H : Hp) : Kp h l H H := fun _ _ _ _ e => e
theorem Kp.trans {h l : Addr} {H H1 H2 : Hp} (a : Kp h l H H1) (b : Kp h l H1 H2) : Kp h l H H2 := fun x o n m e => b x o n m (a x o n m e)
theorem Kp.ex {h l : Addr} {H H1 : Hp} (a : Ex H H1) : Kp h l H H1 := fun x o _ _ e => a x o e
theorem Kp.put {h l : Addr} {H H1 : Hp} {o : HO} {a : Addr} (k : Kp h l H H1) (ha : a = h ∨ a = l) : Kp h l H (upd H1 a o) := fun x u n m e => by
  have hx : x ≠ a := by rcases ha with rfl | rfl <;> assumption
  rw [upd_ne hx]
  exact k x u n m e
theorem HandAt.ne {H : Hp} {h l : Addr} {cs : List Int} {sd : Int} (A : HandAt H h l cs sd) : h ≠ l := by
  intro e
  subst e
  have e2 := A.hh.symm.trans A.hl
  cases cs with
  | nil => cases e2
  | cons c r => cases e2
theorem Hand.ne {H : Hp} {h l : Addr} (A : Hand H h l) : h ≠ l := by
  obtain ⟨cs, sd, A⟩ := A
  exact A.ne
theorem HandAt.ex {H H' : Hp} {h l : Addr} {cs : List Int} {sd : Int} (A : HandAt H h l cs sd) (e : Ex H H') : HandAt H' h l cs sd := ⟨e _ _ A.hh, e _ _ A.hl, A.lo, A.hi, A.few, A.pos⟩
theorem Hand.ex {H H' : Hp} {h l : Addr} (A : Hand H h l) (e : Ex H H') : Hand H' h l := by
  obtain ⟨cs, sd, A⟩ := A
  exact ⟨cs, sd, A.ex e⟩
theorem Hand.fresh {H : Hp} {h l p : Addr} (A : Hand H h l) (n : H p = none) : p ≠ h ∧ p ≠ l := by
  obtain ⟨cs, sd, A⟩ := A
  constructor
  · intro e
    subst e
    rw [A.hh] at n
    cases n
  · intro e
    subst e
    rw [A.hl] at n
    cases n
theorem Hand.off {H : Hp} {h l p : Addr} {o : HO} (A : Hand H h l) (n : H p = some o) (no : ∀ xs, o ≠ .lst xs) : p ≠ h ∧ p ≠ l := by
  obtain ⟨cs, sd, A⟩ := A
  constructor
  · intro e
    subst e
    rw [A.hh] at n
    cases n
    exact no _ rfl
  · intro e
    subst e
    rw [A.hl] at n
    cases n
    exact no _ rfl
theorem kp_tup {H H' : Hp} {h l a : Addr} {xs : List V} (A : Hand H h l) (k : Kp h l H H') (e : H a = some (.tup xs)) : H' a = some (.tup xs) := by
  obtain ⟨n, m⟩ := A.off e (fun _ z => by cases z)
  exact k a _ n m e
/-- what is new lies beside the hand -/
theorem Hand.new {H : Hp} {h l p : Addr} {o : HO} (A : Hand H h l) (n : H p = none) : Hand (upd H p o) h l := A.ex (Ex.new n)
theorem Hand.upd {H : Hp} {h l p : Addr} {o : HO} (A : Hand H h l) (n : p ≠ h) (m : p ≠ l) : Hand (upd H p o) h l := by
  obtain ⟨cs, sd, A⟩ := A
  exact ⟨cs, sd, by rw [upd_ne (Ne.symm n)]; exact A.hh, by rw [upd_ne (Ne.symm m)]; exact A.hl, A.lo, A.hi, A.few, A.pos⟩
/-! ### lists of ints compared with [] -/
theorem dpa_ints {K : PySem.W.Frag} {H : Hp} : ∀ ns : List Int, DpAll K H (ns.map V.int) (ns.map PyData.int)
  | [] => .nil
  | n :: r => .cons (.int n) (dpa_ints r)
theorem lay_ints : ∀ ns : List Int, PyData.canLayAll0 (ns.map PyData.int) = true
  | [] => by simp [PyData.canLayAll0]
  | n :: r => by simp [PyData.canLayAll0, PyData.canLay0, lay_ints r]
theorem deep_ints : ∀ ns : List Int, PyData.depthAll (ns.map PyData.int) = 0
  | [] => by simp [PyData.depthAll]
  | n :: r => by simp [PyData.depthAll, PyData.depth, deep_ints r]
theorem shaped_ints (ns : List Int) : SeqAt.shaped (.list (ns.map PyData.int)) = true := by
  unfold SeqAt.shaped
  simp [PyData.canLay0, lay_ints, PyData.depth, deep_ints]
theorem eqv_nil (ds : List PyData) : PyData.eqvAll ds [] = ds.isEmpty := by
  cases ds <;> simp [PyData.eqvAll]
theorem ev_neNil {K : PySem.W.Frag} {σ : L2.St} {H : Hp} {ta : TE} {l : Addr} {cs : List Int} (ha : Ev ta σ H (.ref l)) (hl : H l = some (.lst (cs.map V.int))) : Ev (tOp (rNeD K) ta (tLst tNil)) σ H (.bl (!cs.isEmpty)) :=
  ev_opL (xs := []) ha (el_lst ea_nil (by decide)) fun p H1 hp e1 H2 e2 Q q => ⟨.list (cs.map PyData.int), .list [], .lst (sq_of (e2 _ _ (e1 _ _ hl))) (dpa_ints cs), .lst (sq_of (e2 _ _ hp)) .nil, shaped_ints cs, by decide +kernel, by
    have e : PyData.eqv (.list (cs.map PyData.int)) (.list []) = cs.isEmpty := by
      simp only [PyData.eqv, eqv_nil]
      cases cs <;> rfl
    rw [e]
    exact q H2 (Ex.refl H2)⟩
/-! ### slices of a list of ints, from its front -/
theorem el_cut {K : PySem.W.Frag} {σ : L2.St} {H : Hp} {ta : TE} {a : Addr} {xs : List V} {n : Int} (ha : Ev ta σ H (.ref a)) (hs : SqL K H a xs) : EvL (tSl (rSlL K) ta tNoPart (tPart (tC (.int n)))) σ H (cutV xs none (some n)) := fun H1 e Q q =>
  ha H1 e _ fun H2 e2 => ⟨n, rfl, a, xs, rfl, ex_l (e.trans e2) hs, fun p hp => q p _ (fresh_back e2 hp) (e2.trans (Ex.new hp)) upd_same⟩
theorem cut_ints (ns : List Int) (n : Int) : ∃ ms : List Int, cutV (ns.map V.int) none (some n) = ms.map V.int ∧ ms.length ≤ ns.length := by
  refine ⟨(ns.drop (HT.sIx (ns.map V.int).length 0 none)).take (HT.sIx (ns.map V.int).length (ns.map V.int).length (some n) - HT.sIx (ns.map V.int).length 0 none), ?_, ?_⟩
  · unfold cutV
    rw [List.map_take, List.map_drop]
  · rw [List.length_take, List.length_drop]
    omega
end NL
/-! defs that are called where no text of a heap's thing is being made: what repr asks for -/
namespace NL
open PySem PySem.Spec PyProof.Rows L2 Evl
/-- the promise of a def, kept wherever no repr is under way -/
structure FnG (P : Program) (w : World) (K : PySem.W.Frag) (mg : Str → Option Value) (base : Heap) (k : Nat) (f : Addr) (fd : FuncData) (ps : List Str) (sp : Sp) : Prop where
  arity : ∀ xs H Q E, sp xs H Q E → xs.length = ps.length
  go : ∀ (A : Around) (envs : List Env) (st : Shared) (H : Hp) (ar : Args) (vals : List Value) (xs : List V) (Q : VK) (E : XK), A.guards = some [] → Room k A → Env0 P w K mg base A envs st H → BindsTo st fd ar (ps.zip vals) → Vals xs vals → sp xs H Q E →
    codeAny (model P w) A (.call (.ref f) ar) (CR CX0 envs P w H st Q E) st
section
variable {P : Program} {w : World} {K : PySem.W.Frag} {mg : Str → Option Value} {base : Heap} {k : Nat} {f : Addr} {fd : FuncData} {ps : List Str} {sp : Sp}
theorem FnG.up {j : Nat} (F : FnG P w K mg base k f fd ps sp) (h : k ≤ j) : FnG P w K mg base j f fd ps sp := ⟨F.arity, fun A envs st H ar vals xs Q E g room => F.go A envs st H ar vals xs Q E g (room.mono h)⟩
/-- a def of the text, by its body -/
theorem fun_g {x qual : Str} {st : Stmt} {N : List Str} (F : Fun K x qual st f fd) (S : FnScope N ps (defScope st)) (arity : ∀ xs H Q E, sp xs H Q E → xs.length = ps.length)
    (body : ∀ (cdv : Value) (A : Around) (outer : List Env) (s : Shared) (H : Hp) (vs : List V) (Q : VK) (E : XK), A.guards = some [] → Room k (A.deeper (PyProof.Rows.envOfC qual (defScope st) s.heap.objs.size f cdv)) → sp vs H Q E →
      ∃ t, PSs (cxOf CX0 P w K mg base N qual (defScope st) f cdv A outer s H E).nox (defBody st) t ∧ t { nx := fun _ H' => Q .non H', rt := Q } (start N vs) H) : FnG P w K mg base (k + 1) f fd ps sp := by
  obtain ⟨oc, od, kV, doc, pm, an, cdv, ct, osl, hfd, look, code⟩ := F.ex
  subst hfd
  constructor
  · exact arity
  intro A envs s H ar vals xs Q E quiet room env0 binds rel promise
  have stays : ∀ b o, base.get? b = some o → s.heap.get? b = some o := fun b o e => (env0.bs b o e).1
  have kin : K.In s.heap := env0.mod.kin.keeps stays
  have nolim : s.heap.NoLimit := env0.mod.nolimit.keeps stays
  obtain ⟨t, walk, ends⟩ := body cdv A envs s H xs Q E quiet (room.deeper _) promise
  refine codeAny_call_function room.depth (kin _ _ look) rfl S.co S.gen rfl (PySem.W.codeRec_of kin code) (binds _ _ _ _ ?_)
  refine wpAny_newFunctionEnv_cells S.kind ?kinds fun env henv s1 made => ?_
  case kinds =>
    intro ⟨n, v⟩ mem
    cases S.par n (List.of_mem_zip mem).1 with
    | inl loc => exact Or.inl loc
    | inr cell => exact Or.inr ⟨cell, PySem.W.cellsFrom_some _ _ _ (Or.inl cell)⟩
  subst henv
  refine ⟨nolim.keeps made.toInCall.keep, codeAny_func ?_⟩
  refine wpAny_mono (walk.nox.run [] s1 (start N xs) H _ (inv_start S room.hd env0 (arity _ _ _ _ promise) rel made) ends) (fun flow s' out => ?_) fun e s' out => out
  match flow, out with
  | .ret u, out =>
    obtain ⟨v, σ', H', inv, ru, q⟩ := out
    exact ⟨v, H', inv.os, inv.bare, inv.base, inv.hok, ru, q⟩
  | .next, out =>
    obtain ⟨σ', H', inv, q⟩ := out
    exact ⟨V.non, H', inv.os, inv.bare, inv.base, inv.hok, rfl, q⟩
  | .brk, out => exact out.elim fun _ h => h.elim fun _ h => h.2.elim
  | .cont, out => exact out.elim fun _ h => h.elim fun _ h => h.2.elim
end
/-! ### the law's own call -/
end NL
/-! plans as trees, and as they lie in the heap -/
namespace NL
open PySem L2 Evl
inductive Tr where
  | hand (n : Str)
  | grp (n : Str) (b : Int) (ms : List Tr)
/-- name, whether it is a group, the groups around it -/
abbrev Rw := Str × Bool × List Str
mutual
def Tr.told : Tr → List Str → List Rw
  | .hand n, p => [(n, false, p)]
  | .grp n _ ms, p => (n, true, p) :: tolds ms (n :: p)
def tolds : List Tr → List Str → List Rw
  | [], _ => []
  | t :: ts, p => t.told p ++ tolds ts p
end
mutual
def Tr.size : Tr → Nat
  | .hand _ => 1
  | .grp _ _ ms => sizes ms + 1
def sizes : List Tr → Nat
  | [] => 0
  | t :: ts => t.size + sizes ts
end
mutual
def Tr.deep : Tr → Nat
  | .hand _ => 0
  | .grp _ _ ms => deeps ms + 1
def deeps : List Tr → Nat
  | [] => 0
  | t :: ts => max t.deep (deeps ts)
end
mutual
theorem told_len : ∀ (t : Tr) (p : List Str), (t.told p).length = t.size
  | .hand n, p => by simp [Tr.told, Tr.size]
  | .grp n b ms, p => by simp [Tr.told, Tr.size, tolds_len ms]
theorem tolds_len : ∀ (ts : List Tr) (p : List Str), (tolds ts p).length = sizes ts
  | [], p => by simp [tolds, sizes]
  | t :: ts, p => by simp [tolds, sizes, told_len t, tolds_len ts]
end
mutual
inductive TrV (H : Hp) : V → Tr → Prop
  | hand (n : Str) : TrV H (.str n) (.hand n)
  | grp {a m : Addr} {n : Str} {b : Int} {xs : List V} {ms : List Tr} : H a = some (.tup [.str n, .int b, .ref m]) → H m = some (.tup xs) → TrVs H xs ms → TrV H (.ref a) (.grp n b ms)
inductive TrVs (H : Hp) : List V → List Tr → Prop
  | nil : TrVs H [] []
  | cons {v : V} {vs : List V} {t : Tr} {ts : List Tr} : TrV H v t → TrVs H vs ts → TrVs H (v :: vs) (t :: ts)
end
/-- tuples stay -/
def TK (H H' : Hp) : Prop := ∀ a xs, H a = some (.tup xs) → H' a = some (.tup xs)
theorem TK.refl (H : Hp) : TK H H := fun _ _ e => e
theorem TK.trans {H H1 H2 : Hp} (a : TK H H1) (b : TK H1 H2) : TK H H2 := fun x o e => b x o (a x o e)
theorem TK.ex {H H' : Hp} (e : Ex H H') : TK H H' := fun a xs h => e a _ h
theorem TK.put {H : Hp} {p : Addr} {o : HO} (h : ∀ xs, H p ≠ some (.tup xs)) : TK H (upd H p o) := fun a xs e => by
  rw [upd_ne (fun z => by subst z; exact h _ e)]
  exact e
theorem TK.lst {H : Hp} {p : Addr} {o : HO} {ys : List V} (h : H p = some (.lst ys)) : TK H (upd H p o) := TK.put fun xs e => by rw [h] at e; cases e
theorem TK.new {H : Hp} {p : Addr} {o : HO} (h : H p = none) : TK H (upd H p o) := TK.put fun xs e => by rw [h] at e; cases e
mutual
theorem trv_tk {H H' : Hp} (k : TK H H') : ∀ (t : Tr) (v : V), TrV H v t → TrV H' v t
  | .hand n, _, h => by cases h; exact .hand n
  | .grp n b ms, _, h => by
    cases h with
    | grp h1 h2 h3 => exact .grp (k _ _ h1) (k _ _ h2) (trvs_tk k ms _ h3)
theorem trvs_tk {H H' : Hp} (k : TK H H') : ∀ (ts : List Tr) (vs : List V), TrVs H vs ts → TrVs H' vs ts
  | [], _, h => by cases h; exact .nil
  | t :: ts, _, h => by
    cases h with
    | cons h1 h2 => exact .cons (trv_tk k t _ h1) (trvs_tk k ts _ h2)
end
theorem trvs_get {H : Hp} : ∀ {vs : List V} {ts : List Tr} {i : Nat} {v : V}, TrVs H vs ts → vs[i]? = some v → ∃ t, ts[i]? = some t ∧ TrV H v t
  | _, _, _, _, .nil, e => by simp at e
  | _, _, 0, _, .cons r _, e => by simp at e; subst e; exact ⟨_, rfl, r⟩
  | _, _, i + 1, v, .cons _ t, e => by
    obtain ⟨d, h1, h2⟩ := trvs_get (i := i) (v := v) t (by simpa using e)
    exact ⟨d, by simpa using h1, h2⟩
theorem trvs_len {H : Hp} : ∀ {vs : List V} {ts : List Tr}, TrVs H vs ts → vs.length = ts.length
  | _, _, .nil => rfl
  | _, _, .cons _ t => by rw [List.length_cons, List.length_cons, trvs_len t]
theorem sizes_mem : ∀ {ts : List Tr} {i : Nat} {t : Tr}, ts[i]? = some t → t.size ≤ sizes ts
  | [], _, _, h => by simp at h
  | u :: ts, 0, t, h => by simp at h; subst h; simp [sizes]
  | u :: ts, i + 1, t, h => by
    have := sizes_mem (ts := ts) (i := i) (t := t) (by simpa using h)
    simp only [sizes]
    omega
theorem deeps_mem : ∀ {ts : List Tr} {i : Nat} {t : Tr}, ts[i]? = some t → t.deep ≤ deeps ts
  | [], _, _, h => by simp at h
  | u :: ts, 0, t, h => by simp at h; subst h; simp only [deeps]; exact Nat.le_max_left _ _
  | u :: ts, i + 1, t, h => by
    have := deeps_mem (ts := ts) (i := i) (t := t) (by simpa using h)
    simp only [deeps]
    exact Nat.le_trans this (Nat.le_max_right _ _)
theorem sizes_take : ∀ (ts : List Tr) (i : Nat), sizes (ts.take i) ≤ sizes ts
  | [], i => by simp [sizes]
  | t :: ts, 0 => by simp [sizes]
  | t :: ts, i + 1 => by
    have := sizes_take ts i
    simp only [List.take_succ_cons, sizes]
    omega
/-- a row of a tale of a plan, in the heap -/
def RowT (H : Hp) (v : V) (r : Rw) : Prop := ∃ a pa, v = .ref a ∧ H a = some (.tup [.str r.1, .bl r.2.1, .ref pa]) ∧ H pa = some (.tup (r.2.2.map V.str))
inductive Rows (H : Hp) : List V → List Rw → Prop
  | nil : Rows H [] []
  | cons {v : V} {vs : List V} {r : Rw} {rs : List Rw} : RowT H v r → Rows H vs rs → Rows H (v :: vs) (r :: rs)
theorem RowT.tk {H H' : Hp} {v : V} {r : Rw} (k : TK H H') (h : RowT H v r) : RowT H' v r := by
  obtain ⟨a, pa, e, h1, h2⟩ := h
  exact ⟨a, pa, e, k _ _ h1, k _ _ h2⟩
theorem Rows.tk {H H' : Hp} (k : TK H H') : ∀ {vs : List V} {rs : List Rw}, Rows H vs rs → Rows H' vs rs
  | _, _, .nil => .nil
  | _, _, .cons a b => .cons (a.tk k) (b.tk k)
theorem Rows.app {H : Hp} : ∀ {vs us : List V} {rs qs : List Rw}, Rows H vs rs → Rows H us qs → Rows H (vs ++ us) (rs ++ qs)
  | _, _, _, _, .nil, h => h
  | _, _, _, _, .cons a b, h => .cons a (b.app h)
theorem Rows.one {H : Hp} {v : V} {r : Rw} (h : RowT H v r) : Rows H [v] [r] := .cons h .nil
theorem Rows.len {H : Hp} : ∀ {vs : List V} {rs : List Rw}, Rows H vs rs → vs.length = rs.length
  | _, _, .nil => rfl
  | _, _, .cons _ t => by rw [List.length_cons, List.length_cons, t.len]
theorem Rows.get {H : Hp} : ∀ {vs : List V} {rs : List Rw} {i : Nat} {v : V}, Rows H vs rs → vs[i]? = some v → ∃ r, rs[i]? = some r ∧ RowT H v r
  | _, _, _, _, .nil, e => by simp at e
  | _, _, 0, _, .cons r _, e => by simp at e; subst e; exact ⟨_, rfl, r⟩
  | _, _, i + 1, v, .cons _ t, e => by
    obtain ⟨d, h1, h2⟩ := t.get (i := i) (v := v) (by simpa using e)
    exact ⟨d, by simpa using h1, h2⟩
/-- isinstance(x, T), by the thing's kind -/
theorem ev_isK {K : PySem.W.Frag} {σ : L2.St} {H : Hp} {ta : TE} {x : V} {T S : String} {b : Bool} (ha : Ev ta σ H x) (ty : ∀ H2, Ex H H2 → TyX K H2 x (.type S)) (hk : kitB S T = some b) : Ev (tCB (rIsi K) (tCons ta (tCons (tC (.ty T)) tNil))) σ H (.bl b) := fun H1 e Q q =>
  ha H1 e _ fun H2 e2 => ⟨x, .ty T, _, _, b, rfl, .ty T, ty H2 (e.trans e2), kit_ty hk, q H2 e2⟩
theorem q_asgG {te : TE} {g : TG} {tz : TS} {D : Ends} {σ : L2.St} {H : Hp} (h : te σ H fun x H1 => g x σ H1 fun σ2 H2 => tz D σ2 H2) : tSeq (tAsg te g) tz D σ H := h
def Tr.isHand : Tr → Bool
  | .hand _ => true
  | _ => false
theorem ev_isHand {K : PySem.W.Frag} {σ : L2.St} {H : Hp} {ta : TE} {x : V} {t : Tr} (ha : Ev ta σ H x) (h : TrV H x t) : Ev (tCB (rIsi K) (tCons ta (tCons (tC (.ty "str")) tNil))) σ H (.bl t.isHand) := by
  cases h with
  | hand n => exact ev_isK ha (fun H2 _ => .base (.str n)) (by decide +kernel : kitB "str" "str" = some true)
  | grp h1 h2 h3 => exact ev_isK ha (fun H2 e => .base (.tup (e _ _ h1))) (by decide +kernel : kitB "tuple" "str" = some false)
theorem filter_take {α : Type} {p : α → Bool} {rs : List α} {i : Nat} {r : α} (h : rs[i]? = some r) : (rs.take (i + 1)).filter p = (rs.take i).filter p ++ (if p r = true then [r] else []) := by
  rw [List.take_succ, h, List.filter_append]
  simp [List.filter_cons]
/-! ### names -/
def nameOk (s : Str) : Prop := 1 ≤ s.length ∧ s.length ≤ 8 ∧ ∀ c ∈ s.cps.toList, 97 ≤ c ∧ c ≤ 122
def midOf (k : Nat) : List Nat := if k = 0 then [] else if k = 1 then [113] else [120]
/-- the name of a spot, as codes -/
def spotL (s : Nat) (stem : List Nat) : List Nat := (97 + s % 26) :: (midOf (s / 26) ++ stem)
theorem spot_inj {s s' : Nat} {stem : List Nat} (h1 : s < 60) (h2 : s' < 60) (h : spotL s stem = spotL s' stem) : s = s' := by
  unfold spotL at h
  have ha : s % 26 = s' % 26 := by
    have := (List.cons.inj h).1
    omega
  have hb := (List.cons.inj h).2
  have hc : midOf (s / 26) = midOf (s' / 26) := List.append_cancel_right hb
  have hd : s / 26 = s' / 26 := by
    have c1 : s / 26 = 0 ∨ s / 26 = 1 ∨ s / 26 = 2 := by omega
    have c2 : s' / 26 = 0 ∨ s' / 26 = 1 ∨ s' / 26 = 2 := by omega
    rcases c1 with c1 | c1 | c1 <;> rcases c2 with c2 | c2 | c2 <;> rw [c1, c2] at hc ⊢ <;> simp [midOf] at hc
  omega
theorem spot_letters {s : Nat} {stem : List Nat} (hs : ∀ c ∈ stem, 97 ≤ c ∧ c ≤ 122) : ∀ c ∈ spotL s stem, 97 ≤ c ∧ c ≤ 122 := by
  intro c hc
  unfold spotL at hc
  rcases List.mem_cons.mp hc with rfl | hc
  · omega
  · rcases List.mem_append.mp hc with hc | hc
    · unfold midOf at hc
      split at hc
      · cases hc
      · split at hc
        · simp at hc; omega
        · simp at hc; omega
    · exact hs c hc
theorem spot_len (s : Nat) (stem : List Nat) : (spotL s stem).length ≤ stem.length + 2 ∧ 1 ≤ (spotL s stem).length := by
  unfold spotL midOf
  simp only [List.length_cons, List.length_append]
  split
  · simp
  · split <;> simp <;> omega
theorem nodup_set {xs : List Str} {w : Str} (h : xs.Nodup) (hw : w ∉ xs) : ∀ j : Nat, (xs.set j w).Nodup := by
  induction xs with
  | nil => intro j; simp
  | cons x xs ih =>
    intro j
    have hx := List.nodup_cons.mp h
    cases j with
    | zero =>
      simp only [List.set_cons_zero]
      exact List.nodup_cons.mpr ⟨fun z => hw (List.mem_cons_of_mem _ z), hx.2⟩
    | succ j =>
      simp only [List.set_cons_succ]
      refine List.nodup_cons.mpr ⟨fun z => ?_, ih hx.2 (fun z => hw (List.mem_cons_of_mem _ z)) j⟩
      rcases List.mem_or_eq_of_mem_set z with z | z
      · exact hx.1 z
      · exact hw (by rw [← z]; exact List.mem_cons_self ..)
theorem map_nodup {α : Type} {f : Nat → α} {n : Nat} (h : ∀ i j, i < n → j < n → f i = f j → i = j) : ((List.range n).map f).Nodup := by
  unfold List.Nodup
  rw [List.pairwise_map]
  refine List.Pairwise.imp_of_mem (fun {a b} ha hb hab => ?_) (List.nodup_range (n := n))
  intro e
  exact hab (h a b (List.mem_range.mp ha) (List.mem_range.mp hb) e)
theorem q_parP {i j : Nat} {ta : TA} {tz : TS} {D : Ends} {σ : L2.St} {H : Hp} (h : ta σ H fun vs H1 => ∃ v w, vs = [v, w] ∧ tz D ((σ.set i (some v)).set j (some w)) H1) : tSeq (tPar i j ta) tz D σ H := h
theorem in_strs {x : Str} {xs : List Str} : inV (.str x) (xs.map V.str) = decide (x ∈ xs) := by
  unfold inV
  rw [List.any_map]
  rw [Bool.eq_iff_iff, List.any_eq_true, decide_eq_true_eq]
  constructor
  · intro ⟨y, hy, e⟩
    have : y = x := by simpa [eqV] using e
    subst this
    exact hy
  · intro h
    exact ⟨x, h, by simp [eqV]⟩
theorem flat_strs (xs : List Str) : (xs.map V.str).all flatV = true := by
  rw [List.all_map, List.all_eq_true]
  intro x _
  rfl
theorem tYesQ {σ : L2.St} {H : Hp} {A B : Hp → Prop} (h : A H) : tYes σ H fun b H3 => if b = true then A H3 else B H3 := by
  show if true = true then A H else B H
  rw [if_pos rfl]
  exact h
/-- a loop over a new tuple -/
theorem q_forTu {K : PySem.W.Frag} {σ : L2.St} {H : Hp} {xs : List V} {tl : TE} {j : Nat} {tu tz : TS} {D : Ends} (h : EvU tl σ H xs) (Pv : Addr → Nat → L2.St → Hp → Prop) (h0 : ∀ p H1, H p = none → Ex H H1 → H1 p = some (.tup xs) → Pv p 0 σ H1) (hl : ∀ p i σ' H', i ≤ xs.length → Pv p i σ' H' → SqT K H' p xs)
    (hs : ∀ p i x σ' H', xs[i]? = some x → Pv p i σ' H' → tu { D with nx := Pv p (i + 1), ct := Pv p (i + 1), bk := tz D } (σ'.set j (some x)) H') (hd : ∀ p σ' H', Pv p xs.length σ' H' → tz D σ' H') : tSeq (tFor (iTup K tl) (gName j) tu) tz D σ H := by
  refine h H (Ex.refl H) _ fun p H1 fresh e at_p => ?_
  exact ⟨p, rfl, ⟨xs, st_of at_p⟩, for_tup (Pv p) (h0 p H1 fresh e at_p) (hl p) (hs p) (hd p)⟩
/-! ### names of a tree -/
mutual
def Tr.nms : Tr → List Str
  | .hand n => [n]
  | .grp n _ ms => n :: nmss ms
def nmss : List Tr → List Str
  | [] => []
  | t :: ts => t.nms ++ nmss ts
end
mutual
theorem told_nms : ∀ (t : Tr) (p : List Str), (t.told p).map (·.1) = t.nms
  | .hand n, p => by simp [Tr.told, Tr.nms]
  | .grp n b ms, p => by simp [Tr.told, Tr.nms, tolds_nms ms]
theorem tolds_nms : ∀ (ts : List Tr) (p : List Str), (tolds ts p).map (·.1) = nmss ts
  | [], p => by simp [tolds, nmss]
  | t :: ts, p => by simp [tolds, nmss, told_nms t, tolds_nms ts]
end
theorem nmss_len (ts : List Tr) : (nmss ts).length = sizes ts := by rw [← tolds_nms ts [], List.length_map, tolds_len]
theorem nmss_app : ∀ (ts us : List Tr), nmss (ts ++ us) = nmss ts ++ nmss us
  | [], us => by simp [nmss]
  | t :: ts, us => by simp [nmss, nmss_app ts us]
theorem sizes_app : ∀ (ts us : List Tr), sizes (ts ++ us) = sizes ts + sizes us
  | [], us => by simp [sizes]
  | t :: ts, us => by simp [sizes, sizes_app ts us]; omega
theorem deeps_app : ∀ (ts us : List Tr), deeps (ts ++ us) = max (deeps ts) (deeps us)
  | [], us => by simp [deeps]
  | t :: ts, us => by simp [deeps, deeps_app ts us, Nat.max_assoc]
theorem trvs_app {H : Hp} : ∀ {vs us : List V} {ts qs : List Tr}, TrVs H vs ts → TrVs H us qs → TrVs H (vs ++ us) (ts ++ qs)
  | _, _, _, _, .nil, h => h
  | _, _, _, _, .cons a b, h => .cons a (trvs_app b h)
mutual
def Tr.ok : Tr → Prop
  | .hand _ => True
  | .grp _ b ms => 1 ≤ b ∧ b ≤ 999999999 ∧ ms ≠ [] ∧ oks ms
def oks : List Tr → Prop
  | [] => True
  | t :: ts => t.ok ∧ oks ts
end
theorem oks_app : ∀ {ts us : List Tr}, oks ts → oks us → oks (ts ++ us)
  | [], _, _, h => h
  | _ :: _, _, a, h => by
    simp only [oks, List.cons_append] at a ⊢
    exact ⟨a.1, oks_app a.2 h⟩
/-- how many names a member takes at most -/
def mem : Nat → Nat → Nat
  | 0, _ => 1
  | d + 1, w => 1 + w * mem d w
theorem mem_pos : ∀ d w, 1 ≤ mem d w
  | 0, _ => by simp [mem]
  | d + 1, w => by simp [mem]
/-- all stays but the hand and one list -/
def Kn (h l m : Addr) (H H' : Hp) : Prop := ∀ a o, a ≠ h → a ≠ l → a ≠ m → H a = some o → H' a = some o
theorem Kn.refl (h l m : Addr) (H : Hp) : Kn h l m H H := fun _ _ _ _ _ e => e
theorem Kn.trans {h l m : Addr} {H H1 H2 : Hp} (a : Kn h l m H H1) (b : Kn h l m H1 H2) : Kn h l m H H2 := fun x o n1 n2 n3 e => b x o n1 n2 n3 (a x o n1 n2 n3 e)
theorem Kn.kp {h l m : Addr} {H H1 : Hp} (a : Kp h l H H1) : Kn h l m H H1 := fun x o n1 n2 _ e => a x o n1 n2 e
theorem Kn.ex {h l m : Addr} {H H1 : Hp} (a : Ex H H1) : Kn h l m H H1 := fun x o _ _ _ e => a x o e
theorem Kn.put {h l m : Addr} {H H1 : Hp} {o : HO} (a : Kn h l m H H1) : Kn h l m H (upd H1 m o) := fun x u n1 n2 n3 e => by
  rw [upd_ne n3]
  exact a x u n1 n2 n3 e
theorem Kn.mut {h l m p : Addr} {H H1 : Hp} {o : HO} (a : Kn h l m H H1) (hp : H p = none) : Kn h l m H (upd H1 p o) := fun x u n1 n2 n3 e => by
  rw [upd_ne (fun z => by subst z; rw [hp] at e; cases e)]
  exact a x u n1 n2 n3 e
theorem Kn.tk {h l m : Addr} {H H1 : Hp} {ys : List V} (A : Hand H h l) (hm : H m = some (.lst ys)) (a : Kn h l m H H1) : TK H H1 := fun x xs e => by
  obtain ⟨n1, n2⟩ := A.off e (fun _ z => by cases z)
  exact a x _ n1 n2 (fun z => by subst z; rw [hm] at e; cases e) e
theorem q_forU {wi : TI} {g : TG} {tb tz : TS} {D : Ends} {σ : L2.St} {H : Hp} (h : wi σ H fun J H1 => ∃ W : Nat → Nat → L2.St → Hp → Prop, (∃ m, W 0 m σ H1) ∧ ∀ i m σ H, W i m σ H →
    (J.stop i H ∧ tz D σ H) ∨ (J.go i H ∧ ∃ N : L2.St → Hp → Prop, (∀ σ' H', N σ' H' → ∃ m', m' < m ∧ W (i + 1) m' σ' H') ∧ ∀ x H', J.yld i H x H' → g x σ H' fun σ2 H2 => tb { D with nx := N, ct := N, bk := tz D } σ2 H2)) : tSeq (tFor wi g tb) tz D σ H := h
theorem rng_turns {g : TG} {tb tz : TS} {D : Ends} {σ : L2.St} {H : Hp} {n : Nat} (Pv : Nat → L2.St → Hp → Prop) (h0 : Pv 0 σ H) (hs : ∀ (i : Nat) σ' H', i < n → Pv i σ' H' → g (.int (0 + (i : Int))) σ' H' fun σ2 H2 => tb { D with nx := Pv (i + 1), ct := Pv (i + 1), bk := tz D } σ2 H2) (hd : ∀ σ' H', Pv n σ' H' → tz D σ' H') :
    ∃ W : Nat → Nat → L2.St → Hp → Prop, (∃ m, W 0 m σ H) ∧ ∀ i m σ H, W i m σ H →
    ((Itr 0 n).stop i H ∧ tz D σ H) ∨ ((Itr 0 n).go i H ∧ ∃ N : L2.St → Hp → Prop, (∀ σ' H', N σ' H' → ∃ m', m' < m ∧ W (i + 1) m' σ' H') ∧ ∀ x H', (Itr 0 n).yld i H x H' → g x σ H' fun σ2 H2 => tb { D with nx := N, ct := N, bk := tz D } σ2 H2) :=
  for_range (lo := 0) (n := n) (D := { D with nx := tz D }) Pv h0 hs hd
theorem last_of {xs : List Str} (h : 1 ≤ xs.length) : ∃ ys n, xs = ys ++ [n] := by
  refine ⟨xs.dropLast, xs.getLast (fun z => by subst z; simp at h), ?_⟩
  exact (List.dropLast_concat_getLast _).symm
theorem last_get (ys : List Str) (n : Str) : ((ys ++ [n]).map V.str)[((ys ++ [n]).map V.str).length - 1]? = some (.str n) := by
  simp
theorem last_drop (ys : List Str) (n : Str) : ((ys ++ [n]).map V.str).dropLast = ys.map V.str := by
  rw [List.map_append]
  simp
end NL
/-! repr of what lies in the heap; plans as data -/
namespace NL
open PySem PySem.Spec PyProof.Rows L2 Evl
theorem hu_r {k : Nat} {A : Around} (hr : Room k A) : A.units + 100 < cLine := by
  have := hr.un
  omega
section
variable {K : PySem.W.Frag} {σ : L2.St} {H : Hp} {ta te : TE}
theorem dpa_strs {H : Hp} : ∀ ns : List Str, DpAll K H (ns.map V.str) (ns.map PyData.str)
  | [] => .nil
  | n :: r => .cons (.str n) (dpa_strs r)
end
/-! ### how long a text is -/
theorem join_len (sep : Str) : ∀ ts : List Str, (Str.join sep ts).length ≤ (ts.map fun t => t.length + sep.length).sum
  | [] => by simp [Str.join, Str.empty, Str.length]
  | [t] => by simp [Str.join]
  | t :: u :: r => by
    have ih := join_len sep (u :: r)
    simp only [Str.join, Str.length_append, List.map_cons, List.sum_cons] at ih ⊢
    omega
theorem tuple_len (ts : List Str) : (tupleText ts).length ≤ (ts.map fun t => t.length + 2).sum + 3 := by
  unfold tupleText
  rw [Str.length_append, Str.length_append]
  have h := join_len ", " ts
  have e1 : (", " : Str).length = 2 := by decide +kernel
  have e2 : ("(" : Str).length = 1 := by decide +kernel
  rw [e1] at h
  have e3 : (Str.ofString (if (ts.length == 1) = true then ",)" else ")" : String)).length ≤ 2 := by
    split
    · decide +kernel
    · decide +kernel
  omega
theorem shownAll_map : ∀ ds : List PyData, PyData.shownAll ds = ds.map PyData.shown
  | [] => by simp [PyData.shownAll]
  | d :: ds => by simp [PyData.shownAll, shownAll_map ds]
/-! ### a plan as a datum -/
mutual
def Tr.dat : Tr → PyData
  | .hand n => .str n
  | .grp n b ms => .tuple [.str n, .int b, .tuple (dats ms)]
def dats : List Tr → List PyData
  | [] => []
  | t :: ts => t.dat :: dats ts
end
mutual
theorem trv_dp {K : PySem.W.Frag} {H : Hp} : ∀ (t : Tr) (v : V), TrV H v t → Dp K H v t.dat
  | .hand n, _, h => by cases h; simp only [Tr.dat]; exact .str n
  | .grp n b ms, _, h => by
    cases h with
    | grp h1 h2 h3 =>
      simp only [Tr.dat]
      exact .tup (st_of h1) (.cons (.str n) (.cons (.int b) (.cons (.tup (st_of h2) (trvs_dp ms _ h3)) .nil)))
theorem trvs_dp {K : PySem.W.Frag} {H : Hp} : ∀ (ts : List Tr) (vs : List V), TrVs H vs ts → DpAll K H vs (dats ts)
  | [], _, h => by cases h; simp only [dats]; exact .nil
  | t :: ts, _, h => by
    cases h with
    | cons h1 h2 =>
      simp only [dats]
      exact .cons (trv_dp t _ h1) (trvs_dp ts _ h2)
end
/-! ### what waits: a tree with the path around it -/
def QV (H : Hp) (v : V) (r : Tr × List Str) : Prop := ∃ a pa x, v = .ref a ∧ H a = some (.tup [x, .ref pa]) ∧ TrV H x r.1 ∧ H pa = some (.tup (r.2.map V.str))
inductive Queue (H : Hp) : List V → List (Tr × List Str) → Prop
  | nil : Queue H [] []
  | cons {v : V} {vs : List V} {r : Tr × List Str} {rs : List (Tr × List Str)} : QV H v r → Queue H vs rs → Queue H (v :: vs) (r :: rs)
theorem QV.tk {H H' : Hp} {v : V} {r : Tr × List Str} (k : TK H H') (h : QV H v r) : QV H' v r := by
  obtain ⟨a, pa, x, e, h1, h2, h3⟩ := h
  exact ⟨a, pa, x, e, k _ _ h1, trv_tk k _ _ h2, k _ _ h3⟩
theorem Queue.tk {H H' : Hp} (k : TK H H') : ∀ {vs : List V} {rs : List (Tr × List Str)}, Queue H vs rs → Queue H' vs rs
  | _, _, .nil => .nil
  | _, _, .cons a b => .cons (a.tk k) (b.tk k)
theorem Queue.app {H : Hp} : ∀ {vs us : List V} {rs qs : List (Tr × List Str)}, Queue H vs rs → Queue H us qs → Queue H (vs ++ us) (rs ++ qs)
  | _, _, _, _, .nil, h => h
  | _, _, _, _, .cons a b, h => .cons a (b.app h)
theorem Queue.len {H : Hp} : ∀ {vs : List V} {rs : List (Tr × List Str)}, Queue H vs rs → vs.length = rs.length
  | _, _, .nil => rfl
  | _, _, .cons _ t => by rw [List.length_cons, List.length_cons, t.len]
/-- all rows that what waits gives -/
def due : List (Tr × List Str) → List Rw
  | [] => []
  | (t, p) :: r => t.told p ++ due r
theorem nodup_rev {α : Type} {l : List α} (h : l.reverse.Nodup) : l.Nodup := by
  unfold List.Nodup at h ⊢
  rw [List.pairwise_reverse] at h
  exact h.imp Ne.symm
theorem s_asgP {te : TE} {D : Ends} {σ : L2.St} {H : Hp} {i : Nat} (h : te σ H fun v H1 => D.nx (σ.set i (some v)) H1) : tAsg te (gName i) D σ H := h
end NL
/-! data with dicts in them (what a dict holds is left aside), and what a plan is among them -/
namespace NL
open PySem L2 Evl
mutual
inductive Dx (K : PySem.W.Frag) (H : Hp) : V → PyData → Prop
  | non : Dx K H .non .none
  | bl (b : Bool) : Dx K H (.bl b) (.bool b)
  | int (i : Int) : Dx K H (.int i) (.int i)
  | str (x : Str) : Dx K H (.str x) (.str x)
  | lst {a : Addr} {xs : List V} {ds : List PyData} : SqL K H a xs → DxAll K H xs ds → Dx K H (.ref a) (.list ds)
  | tup {a : Addr} {xs : List V} {ds : List PyData} : SqT K H a xs → DxAll K H xs ds → Dx K H (.ref a) (.tuple ds)
  | dct {a : Addr} {kvs : List (Key × V)} {ks : List (PyData × PyData)} : H a = some (.dK kvs) → Dx K H (.ref a) (.dict ks)
inductive DxAll (K : PySem.W.Frag) (H : Hp) : List V → List PyData → Prop
  | nil : DxAll K H [] []
  | cons {v : V} {vs : List V} {d : PyData} {ds : List PyData} : Dx K H v d → DxAll K H vs ds → DxAll K H (v :: vs) (d :: ds)
end
mutual
theorem dx_of {K : PySem.W.Frag} {H H' : Hp} (el : ∀ a xs, SqL K H a xs → SqL K H' a xs) (et : ∀ a xs, SqT K H a xs → SqT K H' a xs) (ed : ∀ a kvs, H a = some (.dK kvs) → ∃ kvs', H' a = some (.dK kvs')) : ∀ (d : PyData) (v : V), Dx K H v d → Dx K H' v d
  | .none, _, h => by cases h; exact .non
  | .bool b, _, h => by cases h; exact .bl b
  | .int i, _, h => by cases h; exact .int i
  | .str x, _, h => by cases h; exact .str x
  | .list ds, _, h => by
    cases h with
    | lst hs ha => exact .lst (el _ _ hs) (dxa_of el et ed ds _ ha)
  | .tuple ds, _, h => by
    cases h with
    | tup hs ha => exact .tup (et _ _ hs) (dxa_of el et ed ds _ ha)
  | .dict kvs, _, h => by
    cases h with
    | dct hd =>
      obtain ⟨kvs', hd'⟩ := ed _ _ hd
      exact .dct hd'
theorem dxa_of {K : PySem.W.Frag} {H H' : Hp} (el : ∀ a xs, SqL K H a xs → SqL K H' a xs) (et : ∀ a xs, SqT K H a xs → SqT K H' a xs) (ed : ∀ a kvs, H a = some (.dK kvs) → ∃ kvs', H' a = some (.dK kvs')) : ∀ (ds : List PyData) (vs : List V), DxAll K H vs ds → DxAll K H' vs ds
  | [], _, h => by cases h; exact .nil
  | d :: ds, _, h => by
    cases h with
    | cons h1 h2 => exact .cons (dx_of el et ed d _ h1) (dxa_of el et ed ds _ h2)
end
theorem dx_mono {K : PySem.W.Frag} {H H' : Hp} {v : V} {d : PyData} (e : Ex H H') (h : Dx K H v d) : Dx K H' v d := dx_of (fun _ _ => ex_l e) (fun _ _ => ex_t e) (fun a kvs z => ⟨kvs, e _ _ z⟩) d v h
theorem dxa_mono {K : PySem.W.Frag} {H H' : Hp} {vs : List V} {ds : List PyData} (e : Ex H H') (h : DxAll K H vs ds) : DxAll K H' vs ds := dxa_of (fun _ _ => ex_l e) (fun _ _ => ex_t e) (fun a kvs z => ⟨kvs, e _ _ z⟩) ds vs h
mutual
theorem dx_dp {K : PySem.W.Frag} {H : Hp} : ∀ (d : PyData) (v : V), Dp K H v d → Dx K H v d
  | .none, _, h => by cases h; exact .non
  | .bool b, _, h => by cases h; exact .bl b
  | .int i, _, h => by cases h; exact .int i
  | .str x, _, h => by cases h; exact .str x
  | .list ds, _, h => by
    cases h with
    | lst hs ha => exact .lst hs (dxa_dp ds _ ha)
  | .tuple ds, _, h => by
    cases h with
    | tup hs ha => exact .tup hs (dxa_dp ds _ ha)
  | .dict kvs, _, h => by cases h
theorem dxa_dp {K : PySem.W.Frag} {H : Hp} : ∀ (ds : List PyData) (vs : List V), DpAll K H vs ds → DxAll K H vs ds
  | [], _, h => by cases h; exact .nil
  | d :: ds, _, h => by
    cases h with
    | cons h1 h2 => exact .cons (dx_dp d _ h1) (dxa_dp ds _ h2)
end
theorem dxa_len {K : PySem.W.Frag} {H : Hp} : ∀ {vs : List V} {ds : List PyData}, DxAll K H vs ds → vs.length = ds.length
  | _, _, .nil => rfl
  | _, _, .cons _ t => by rw [List.length_cons, List.length_cons, dxa_len t]
theorem dxa_get {K : PySem.W.Frag} {H : Hp} : ∀ {vs : List V} {ds : List PyData} {i : Nat} {v : V}, DxAll K H vs ds → vs[i]? = some v → ∃ d, ds[i]? = some d ∧ Dx K H v d
  | _, _, _, _, .nil, e => by simp at e
  | _, _, 0, _, .cons r _, e => by simp at e; subst e; exact ⟨_, rfl, r⟩
  | _, _, i + 1, v, .cons _ t, e => by
    obtain ⟨d, h1, h2⟩ := dxa_get (i := i) (v := v) t (by simpa using e)
    exact ⟨d, by simpa using h1, h2⟩
theorem dx_ty {K : PySem.W.Frag} {H : Hp} {v : V} {d : PyData} (h : Dx K H v d) : TyX K H v (.type (tyN d)) := by
  cases h with
  | non => exact .base .non
  | bl b => exact .base (.bl b)
  | int i => exact .base (.int i)
  | str x => exact .base (.str x)
  | lst hs _ =>
    rcases hs with (h | ⟨o, h⟩) | ⟨o, its, n, h, c, _⟩
    · exact .base (.lst h)
    · exact .base (.frz h)
    · exact .kList h c
  | tup hs _ =>
    rcases hs with (h | ⟨o, h⟩) | ⟨o, its, n, h, c, _⟩
    · exact .base (.tup h)
    · exact .fTuple h
    · exact .kTuple h c
  | dct h => exact .base (.dK h)
theorem ev_isX {K : PySem.W.Frag} {σ : L2.St} {H : Hp} {ta : TE} {x : V} {d : PyData} {T : String} {b : Bool} (ha : Ev ta σ H x) (hd : Dx K H x d) (hk : kitB (tyN d) T = some b) : Ev (tCB (rIsi K) (tCons ta (tCons (tC (.ty T)) tNil))) σ H (.bl b) := fun H1 e Q q =>
  ha H1 e _ fun H2 e2 => ⟨x, .ty T, _, _, b, rfl, .ty T, dx_ty (dx_mono (e.trans e2) hd), kit_ty hk, q H2 e2⟩
/-! ### names, plans -/
def nameB (s : Str) : Bool := decide (1 ≤ s.length) && decide (s.length ≤ 8) && s.cps.toList.all fun c => decide (c ∈ ("abcdefghijklmnopqrstuvwxyz" : Str).cps.toList)
def isNm : PyData → Bool
  | .str s => nameB s
  | _ => false
mutual
def fitM : PyData → List Str → Option (List Str)
  | .str s, seen => if nameB s = true ∧ s ∉ seen then some (seen ++ [s]) else none
  | .tuple [.str n, .int b, .tuple ms], seen => if 1 ≤ b ∧ ms ≠ [] ∧ nameB n = true ∧ n ∉ seen then fitMs ms (seen ++ [n]) else none
  | _, _ => none
def fitMs : List PyData → List Str → Option (List Str)
  | [], seen => some seen
  | d :: ds, seen => match fitM d seen with
    | none => none
    | some s => fitMs ds s
end
/-- as a group by itself -/
def fitG (d : PyData) (seen : List Str) : Option (List Str) := match d with
  | .str _ => none
  | d => fitM d seen
def planB (d : PyData) : Bool := (fitG d []).isSome
/-- what is a group by its form -/
def formB : PyData → Bool
  | .tuple [_, .int b, .tuple ms] => decide (1 ≤ b) && !ms.isEmpty
  | _ => false
mutual
def nodes : PyData → Nat
  | .tuple ds => nodess ds + 1
  | .list ds => nodess ds + 1
  | _ => 1
def nodess : List PyData → Nat
  | [] => 0
  | d :: ds => nodes d + nodess ds
end
/-- all but the dict at sd stays -/
def KD (sd : Addr) (H H' : Hp) : Prop := ∀ a o, a ≠ sd → H a = some o → H' a = some o
theorem KD.trans {sd : Addr} {H H1 H2 : Hp} (a : KD sd H H1) (b : KD sd H1 H2) : KD sd H H2 := fun x o n e => b x o n (a x o n e)
theorem KD.ex {sd : Addr} {H H1 : Hp} (a : Ex H H1) : KD sd H H1 := fun x o _ e => a x o e
abbrev ky (n : Str) : Key × V := (Sum.inr n, .bl true)
theorem val_ky {n : Str} : ∀ {ns : List Str}, (valV (ns.map ky) (Sum.inr n)).isSome = decide (n ∈ ns)
  | [] => by simp [valV]
  | m :: ns => by
    by_cases e : m = n
    · subst e
      rw [List.map_cons, valV_pos rfl]
      simp
    · rw [List.map_cons, valV_neg (fun z => e (Sum.inr.inj z)), val_ky]
      have : decide (n ∈ m :: ns) = decide (n ∈ ns) := decide_eq_decide.mpr ⟨fun h => by rcases List.mem_cons.mp h with h | h; exact absurd h.symm e; exact h, fun h => List.mem_cons_of_mem _ h⟩
      rw [this]
theorem put_ky {n : Str} {ns : List Str} (h : n ∉ ns) : putK (ns.map ky) (Sum.inr n) (.bl true) = (ns ++ [n]).map ky := by
  unfold putK
  rw [valV_any, val_ky, decide_eq_false h]
  simp
/-- a comprehension over a text's signs -/
theorem el_lcS {σ : L2.St} {H : Hp} {z : Str} {tl te : TE} {j : Nat} {vs : List Nat} (g : Nat → V) (src : Ev tl σ H (.str z)) (few : z.cps.size ≤ 40000) (clean : ∀ x, wipe ((wipe σ vs).set j (some x)) vs = wipe σ vs)
    (give : ∀ (i : Nat) (c : Nat) H1, Ex H H1 → z.cps[i]? = some c → Ev te ((wipe σ vs).set j (some (.str ⟨#[c]⟩))) H1 (g i)) : EvL (tLc (iStr tl) (gName j) tYes te vs) σ H ((List.range z.cps.size).map g) := by
  intro H0 e0 Q next
  refine src H0 e0 _ fun H1 e1 => ?_
  refine ⟨z, rfl, fun made fresh => ?_⟩
  refine lc_it (walk_str (z := z)) (Cw H1 (fun _ => true) g made) ⟨fresh, Ex.new fresh, upd_same⟩ (fun _ _ _ _ => trivial) ?turn ?done
  case turn =>
    intro i x H2 H3 lt inv y
    obtain ⟨rfl, c, hc, rfl⟩ := y
    exact ⟨clean _, cw_turn inv (by omega) et_yes (fun _ => give i c H1 (e0.trans e1) hc)⟩
  case done =>
    intro H2 inv
    have h2 := inv.2.2
    rw [given_all] at h2
    exact next made H2 (fresh_back e1 inv.1) (e1.trans inv.2.1) h2
mutual
def shorts : PyData → Prop
  | .str s => s.length ≤ 1000000
  | .tuple ds => shortss ds
  | .list ds => shortss ds
  | _ => True
def shortss : List PyData → Prop
  | [] => True
  | d :: ds => shorts d ∧ shortss ds
end
theorem q_notB {te : TE} {tu tz : TS} {D : Ends} {σ : L2.St} {H : Hp} (h : te σ H fun x H1 => ∃ c, x = .bl c ∧ if (!c) = true then tu { D with nx := tz D } σ H1 else tz D σ H1) : tSeq (tIfS (tNot (tB te)) tu tNext) tz D σ H := h
theorem dxa3 {K : PySem.W.Frag} {H : Hp} {xs : List V} {d f g : PyData} (h : DxAll K H xs [d, f, g]) : ∃ x y z, xs = [x, y, z] ∧ Dx K H x d ∧ Dx K H y f ∧ Dx K H z g := by
  cases h with
  | cons h1 t =>
    cases t with
    | cons h2 t =>
      cases t with
      | cons h3 t =>
        cases t
        exact ⟨_, _, _, rfl, h1, h2, h3⟩
end NL
/-! all names of a plan, as a datum -/
namespace NL
open PySem L2 Evl
mutual
def allM : PyData → Option (List Str)
  | .str s => if nameB s = true then some [s] else none
  | .tuple [.str n, .int b, .tuple ms] => if 1 ≤ b ∧ ms ≠ [] ∧ nameB n = true then (match allMs ms with | none => none | some r => some (n :: r)) else none
  | _ => none
def allMs : List PyData → Option (List Str)
  | [] => some []
  | d :: ds => match allM d with
    | none => none
    | some a => match allMs ds with
      | none => none
      | some b => some (a ++ b)
end
def allG (d : PyData) : Option (List Str) := match d with
  | .str _ => none
  | d => allM d
def within (o : Option (List Str)) (seen : List Str) : Option (List Str) := match o with
  | none => none
  | some ns => if ns.Nodup ∧ ∀ n ∈ ns, n ∉ seen then some (seen ++ ns) else none
mutual
theorem fit_all (d : PyData) (seen : List Str) : fitM d seen = within (allM d) seen := by
  unfold fitM allM
  split
  · rename_i s
    simp only
    by_cases h1 : nameB s = true
    · by_cases h2 : s ∈ seen
      · rw [if_neg (fun h => h.2 h2), if_pos h1]
        simp only [within]
        rw [if_neg (fun h => h.2 s (List.mem_singleton.mpr rfl) h2)]
      · rw [if_pos ⟨h1, h2⟩, if_pos h1]
        simp only [within]
        rw [if_pos ⟨by simp, fun n hn => by rw [List.mem_singleton.mp hn]; exact h2⟩]
    · rw [if_neg (fun h => h1 h.1), if_neg h1]
      rfl
  · rename_i n b ms
    simp only
    by_cases h1 : 1 ≤ b ∧ ms ≠ [] ∧ nameB n = true
    · rw [if_pos h1]
      by_cases h2 : n ∈ seen
      · rw [if_neg (fun h => h.2.2.2 h2)]
        cases hm : allMs ms with
        | none => rfl
        | some r =>
          simp only [within]
          rw [if_neg (fun h => h.2 n (List.mem_cons_self ..) h2)]
      · rw [if_pos ⟨h1.1, h1.2.1, h1.2.2, h2⟩, fits_all ms (seen ++ [n])]
        cases hm : allMs ms with
        | none => rfl
        | some r =>
          simp only [within]
          by_cases h3 : r.Nodup ∧ ∀ x ∈ r, x ∉ seen ++ [n]
          · rw [if_pos h3, if_pos]
            · simp
            · refine ⟨List.nodup_cons.mpr ⟨fun z => h3.2 n z (by simp), h3.1⟩, fun x hx => ?_⟩
              rcases List.mem_cons.mp hx with rfl | hx
              · exact h2
              · exact fun z => h3.2 x hx (List.mem_append_left _ z)
          · rw [if_neg h3, if_neg]
            intro h4
            have h5 := List.nodup_cons.mp h4.1
            refine h3 ⟨h5.2, fun x hx z => ?_⟩
            rcases List.mem_append.mp z with z | z
            · exact h4.2 x (List.mem_cons_of_mem _ hx) z
            · rw [List.mem_singleton.mp z] at hx
              exact h5.1 hx
    · rw [if_neg (fun h => h1 ⟨h.1, h.2.1, h.2.2.1⟩), if_neg h1]
      rfl
  · rename_i h1 h2
    split
    · exact absurd rfl (h1 _)
    · exact absurd rfl (h2 _ _ _)
    · rfl
termination_by sizeOf d
theorem fits_all (ds : List PyData) (seen : List Str) : fitMs ds seen = within (allMs ds) seen := by
  cases ds with
  | nil =>
    simp only [fitMs, allMs, within]
    rw [if_pos ⟨by simp, fun n hn => by cases hn⟩]
    simp
  | cons d ds =>
    simp only [fitMs, allMs]
    rw [fit_all d seen]
    cases ha : allM d with
    | none => rfl
    | some a =>
      simp only [within]
      by_cases h1 : a.Nodup ∧ ∀ n ∈ a, n ∉ seen
      · rw [if_pos h1]
        simp only
        rw [fits_all ds (seen ++ a)]
        cases hb : allMs ds with
        | none => rfl
        | some b =>
          simp only [within]
          by_cases h2 : b.Nodup ∧ ∀ n ∈ b, n ∉ seen ++ a
          · rw [if_pos h2, if_pos]
            · simp
            · refine ⟨List.nodup_append.mpr ⟨h1.1, h2.1, fun x hx y hy e => ?_⟩, fun x hx => ?_⟩
              · subst e
                exact h2.2 x hy (List.mem_append_right _ hx)
              · rcases List.mem_append.mp hx with hx | hx
                · exact h1.2 x hx
                · exact fun z => h2.2 x hx (List.mem_append_left _ z)
          · rw [if_neg h2, if_neg]
            intro h3
            have h4 := List.nodup_append.mp h3.1
            refine h2 ⟨h4.2.1, fun x hx z => ?_⟩
            rcases List.mem_append.mp z with z | z
            · exact h3.2 x (List.mem_append_right _ hx) z
            · exact h4.2.2 x z x hx rfl
      · rw [if_neg h1]
        simp only
        cases hb : allMs ds with
        | none => rfl
        | some b =>
          simp only
          rw [if_neg]
          intro h3
          exact h1 ⟨(List.nodup_append.mp h3.1).1, fun x hx => h3.2 x (List.mem_append_left _ hx)⟩
termination_by sizeOf ds
end
def uniqueB (o : Option (List Str)) : Bool := match o with
  | none => false
  | some ns => decide ns.Nodup
theorem plan_unique (d : PyData) : planB d = uniqueB (allG d) := by
  have main : ∀ d, (fitM d []).isSome = uniqueB (allM d) := fun d => by
    rw [fit_all]
    cases allM d with
    | none => rfl
    | some ns =>
      simp only [within, uniqueB]
      by_cases h : ns.Nodup
      · rw [if_pos ⟨h, fun n _ => by simp⟩, decide_eq_true h]
        rfl
      · rw [if_neg (fun z => h z.1), decide_eq_false h]
        rfl
  cases d with
  | str s => rfl
  | _ => exact main _
end NL
/-! a list that is extended by a tuple, a list as a test; the names of a plan from a pile of what waits -/
namespace NL
open PySem L2 Evl
theorem list_extend_tup (l : Addr) (items : Array Value) (n : Nat) (b : Addr) (o : Obj) (items2 : Array Value) (n2 : Nat) (hc : o.cls = .type "tuple") (hd : o.data = .seq items2 n2)
    (h0 : ¬(!items.isEmpty && Builtin.List.listTooLong (items.size + items2.size)) = true) (h1 : items.size ≤ sizeLine) (h2 : items.size + items2.size ≤ sizeLine + 1) :
    Meets (Builtin.«list.extend» ⟨[.ref l, .ref b], []⟩) (fun _ R s => s.heap.get? l = some ⟨.type "list", none, .seq items n, #[]⟩ ∧ s.heap.get? b = some o ∧ R (.ok (.ret Value.none)) { s with heap := s.heap.update l (Obj.mapSeq fun x => x ++ items2), toks := s.toks }) := by
  obtain ⟨c, dc, da, sl⟩ := o
  cases hc
  cases hd
  refine .of_wp fun prog w A R s h => ?_
  obtain ⟨hp, g, d, tk, os⟩ := s
  obtain ⟨hl, hb, h⟩ := h
  have f1 := AutoSeq1.idx_int
  have f2 := AutoSeq1.sub_tuple_tuple
  have f3 := AutoSeq1.sub_list_list
  have f4 := AutoSeq1.sub_tuple_list
  have f5 := AutoSeq1.sub_list_tuple
  have hz' : (items ++ items2).size ≤ sizeLine + 1 := by rw [Array.size_append]; exact h2
  wp_walk using (wpAny_updateSeq hl rfl (hz := h1) (_hz' := hz')), AutoSeq1.wpAny_loadPart' hl, AutoSeq1.wpAny_loadPart' hb
  exact ⟨_, rfl, h⟩
def rExtT (K : PySem.W.Frag) : V → List V → Hp → VK → Prop := fun x vs H Q => ∃ l b xs zs, x = .ref l ∧ vs = [.ref b] ∧ H l = some (.lst xs) ∧ SqT K H b zs ∧ xs.length + zs.length ≤ sizeLine ∧ Q .non (upd H l (.lst (xs ++ zs)))
theorem mt_extendT {X : Cx} {K : PySem.W.Frag} (hK : X.K = K) : MtM X "list.extend" (rExtT K) := by
  subst hK
  intro pins s σ H x vs v us Q I rx rv h
  obtain ⟨l, b, xs, zs, rfl, rfl, hH, hB, hz, q⟩ := h
  cases rx
  obtain ⟨u, rfl, ru⟩ := rv.one
  cases ru
  obtain ⟨z, its, n, r, hl, e⟩ := I.lstM hH
  obtain ⟨its2, r2, ⟨o, ho, hc, n2, hd⟩, hl2⟩ := I.tuple hB
  have q1 := r.length
  have q2 := r2.length
  have hsz : its.toArray.size + its2.toArray.size ≤ sizeLine := by rw [List.size_toArray, List.size_toArray]; omega
  have hlong : ¬ (!its.toArray.isEmpty && Builtin.List.listTooLong (its.toArray.size + its2.toArray.size)) = true := by
    rw [notLongL hsz, Bool.and_false]
    exact Bool.false_ne_true
  refine call_meets F.slot_list_extend ⟨_, e, rfl⟩ F.entry_list_extend (F.args_list_extend_2 _ _)
    (list_extend_tup l its.toArray n b o its2.toArray n2 hc hd hlong (by rw [List.size_toArray]; omega) (by omega)) ⟨e, ho, ?_⟩
  refine ⟨.non, _, I.lset (its' := its ++ its2) hH e (by simp) (r.append r2) ?_, rfl, q⟩
  rw [List.length_append]
  omega
def tTru (K : PySem.W.Frag) (te : TE) : TT := fun σ H Q => te σ H fun x H' => ∃ k, TruV K x H' k ∧ Q k H'
theorem truK {X : Cx} {K : PySem.W.Frag} {a : Expr} {ta : TE} (hK : X.K = K) (ha : PE X a ta) (he : ∀ whole, isTrue a X.env whole = (do let v ← whole; standAt a.pos; holding [v] (truthy v))) : PT X a (tTru K ta) := by
  subst hK
  exact pt_truth ha he
theorem et_truL {K : PySem.W.Frag} {te : TE} {σ : L2.St} {H : Hp} {l : Addr} {xs : List V} (h : Ev te σ H (.ref l)) (hl : H l = some (.lst xs)) : EvT (tTru K te) σ H (!xs.isEmpty) := fun H1 e Q q =>
  h H1 e _ fun H2 e2 => ⟨!xs.isEmpty, Or.inl ⟨xs, sq_of ((e.trans e2) _ _ hl), rfl⟩, q H2 e2⟩
/-! ### what waits, the last one first -/
/-- a member's own name, and what is in it -/
def hdM : PyData → Option (Str × List PyData)
  | .str s => some (s, [])
  | .tuple [.str n, .int b, .tuple ms] => if 1 ≤ b ∧ ms ≠ [] then some (n, ms) else none
  | _ => none
def goesB (d : PyData) (ns : List Str) : Bool := match hdM d with
  | none => false
  | some (n, _) => nameB n && decide (n ∉ ns)
theorem allM_other {d : PyData} (h1 : ∀ s, d ≠ .str s) (h2 : ∀ n b ms, d ≠ .tuple [.str n, .int b, .tuple ms]) : allM d = none := by
  unfold allM
  split
  · exact (h1 _ rfl).elim
  · exact (h2 _ _ _ rfl).elim
  · rfl
theorem hdM_other {d : PyData} (h1 : ∀ s, d ≠ .str s) (h2 : ∀ n b ms, d ≠ .tuple [.str n, .int b, .tuple ms]) : hdM d = none := by
  unfold hdM
  split
  · exact (h1 _ rfl).elim
  · exact (h2 _ _ _ rfl).elim
  · rfl
theorem allM_grp (n : Str) (b : Int) (ms : List PyData) : allM (.tuple [.str n, .int b, .tuple ms]) = if 1 ≤ b ∧ ms ≠ [] ∧ nameB n = true then (match allMs ms with | none => none | some r => some (n :: r)) else none := by
  rw [allM]
  all_goals (cases allMs ms <;> rfl)
theorem hdM_grp (n : Str) (b : Int) (ms : List PyData) : hdM (.tuple [.str n, .int b, .tuple ms]) = if 1 ≤ b ∧ ms ≠ [] then some (n, ms) else none := by
  rw [hdM]
def allH : Option (Str × List PyData) → Option (List Str)
  | none => none
  | some (n, ms) => if nameB n = true then (match allMs ms with | none => none | some r => some (n :: r)) else none
theorem allM_hd (d : PyData) : allM d = allH (hdM d) := by
  by_cases c1 : ∃ s, d = .str s
  · obtain ⟨s, rfl⟩ := c1
    rw [allM, hdM, allH, allMs]
  by_cases c2 : ∃ n b ms, d = .tuple [.str n, .int b, .tuple ms]
  · obtain ⟨n, b, ms, rfl⟩ := c2
    rw [allM_grp, hdM_grp]
    by_cases h1 : 1 ≤ b ∧ ms ≠ []
    · rw [if_pos h1, allH]
      by_cases h2 : nameB n = true
      · rw [if_pos ⟨h1.1, h1.2, h2⟩, if_pos h2]
      · rw [if_neg (fun h => h2 h.2.2), if_neg h2]
    · rw [if_neg (fun h => h1 ⟨h.1, h.2.1⟩), if_neg h1, allH]
  rw [allM_other (fun s z => c1 ⟨s, z⟩) (fun n b ms z => c2 ⟨n, b, ms, z⟩), hdM_other (fun s z => c1 ⟨s, z⟩) (fun n b ms z => c2 ⟨n, b, ms, z⟩), allH]
theorem allMs_app : ∀ (a b : List PyData), allMs (a ++ b) = match allMs a with
    | none => none
    | some x => match allMs b with
      | none => none
      | some y => some (x ++ y)
  | [], b => by
    simp only [List.nil_append, allMs]
    cases allMs b <;> rfl
  | d :: a, b => by
    simp only [List.cons_append, allMs]
    rw [allMs_app a b]
    cases allM d with
    | none => rfl
    | some x =>
      cases allMs a with
      | none => rfl
      | some y =>
        cases allMs b with
        | none => rfl
        | some z => simp
def pileB (ds : List PyData) (ns : List Str) : Bool := (within (allMs ds) ns).isSome
theorem pile_nil (ns : List Str) : pileB [] ns = true := by
  simp [pileB, allMs, within]
theorem within_some {o : Option (List Str)} {ns : List Str} : (within o ns).isSome = true ↔ ∃ l, o = some l ∧ l.Nodup ∧ ∀ n ∈ l, n ∉ ns := by
  cases o with
  | none => simp [within]
  | some l =>
    simp only [within]
    by_cases h : l.Nodup ∧ ∀ n ∈ l, n ∉ ns
    · rw [if_pos h]
      exact ⟨fun _ => ⟨l, rfl, h⟩, fun _ => rfl⟩
    · rw [if_neg h]
      exact ⟨fun z => (Bool.false_ne_true z).elim, fun ⟨l', e, h'⟩ => by cases e; exact (h h').elim⟩
theorem pile_stop {a : List PyData} {d : PyData} {ns : List Str} (h : goesB d ns = false) : pileB (a ++ [d]) ns = false := by
  rw [← Bool.not_eq_true]
  intro hp
  obtain ⟨l, e, nd, hn⟩ := within_some.mp hp
  rw [allMs_app] at e
  simp only [allMs] at e
  rw [allM_hd d] at e
  unfold goesB at h
  cases hd : hdM d with
  | none =>
    rw [hd, allH] at e
    cases hx : allMs a with
    | none => rw [hx] at e; cases e
    | some x => rw [hx] at e; cases e
  | some r =>
    obtain ⟨n, ms⟩ := r
    rw [hd] at e h
    rw [allH] at e
    simp only at h
    cases hx : allMs a with
    | none => rw [hx] at e; cases e
    | some x =>
      rw [hx] at e
      by_cases h1 : nameB n = true
      · rw [if_pos h1] at e
        cases hy : allMs ms with
        | none => rw [hy] at e; cases e
        | some y =>
          rw [hy] at e
          simp only [List.append_nil, Option.some.injEq] at e
          subst e
          rw [h1, Bool.true_and] at h
          exact hn n (by simp) (by simpa using h)
      · rw [if_neg h1] at e
        cases e
theorem pile_step {a ms : List PyData} {d : PyData} {n : Str} {ns : List Str} (hd : hdM d = some (n, ms)) (h1 : nameB n = true) (h2 : n ∉ ns) : pileB (a ++ [d]) ns = pileB (a ++ ms) (ns ++ [n]) := by
  have e1 : allMs [d] = match allMs ms with | none => none | some r => some (n :: r) := by
    simp only [allMs]
    rw [allM_hd d, hd, allH, if_pos h1]
    cases allMs ms with
    | none => rfl
    | some r => simp
  have hm : ∀ (x y : List Str), ((x ++ n :: y).Nodup ∧ ∀ m ∈ x ++ n :: y, m ∉ ns) ↔ ((x ++ y).Nodup ∧ ∀ m ∈ x ++ y, m ∉ ns ++ [n]) := by
    intro x y
    have hp : (x ++ n :: y).Perm (n :: (x ++ y)) := List.perm_middle
    rw [hp.nodup_iff, List.nodup_cons]
    constructor
    · rintro ⟨⟨a1, a2⟩, a3⟩
      refine ⟨a2, fun m hm => ?_⟩
      have := a3 m (hp.mem_iff.mpr (List.mem_cons_of_mem _ hm))
      intro z
      rcases List.mem_append.mp z with z | z
      · exact this z
      · rw [List.mem_singleton.mp z] at hm
        exact a1 hm
    · rintro ⟨a2, a3⟩
      refine ⟨⟨fun z => a3 n z (by simp), a2⟩, fun m hm => ?_⟩
      rcases List.mem_cons.mp (hp.mem_iff.mp hm) with z | z
      · rw [z]; exact h2
      · exact fun w => a3 m z (List.mem_append_left _ w)
  rw [Bool.eq_iff_iff]
  unfold pileB
  rw [within_some, within_some, allMs_app, allMs_app, e1]
  cases allMs a with
  | none => simp
  | some x =>
    cases allMs ms with
    | none => simp
    | some y =>
      simp only [Option.some.injEq]
      constructor
      · rintro ⟨l, rfl, h⟩
        exact ⟨_, rfl, (hm x y).mp h⟩
      · rintro ⟨l, rfl, h⟩
        exact ⟨_, rfl, (hm x y).mpr h⟩
theorem pile_plan {d : PyData} (h : ∀ s, d ≠ .str s) : planB d = pileB [d] [] := by
  unfold planB pileB
  have e : fitG d [] = fitM d [] := by
    cases d with
    | str s => exact (h s rfl).elim
    | _ => rfl
  rw [e, fit_all]
  simp only [allMs]
  cases allM d with
  | none => rfl
  | some l => simp
theorem nodess_app : ∀ (a b : List PyData), nodess (a ++ b) = nodess a + nodess b
  | [], b => by simp [nodess]
  | x :: a, b => by simp only [List.cons_append, nodess, nodess_app a b]; omega
theorem hdM_nodes {d : PyData} {n : Str} {ms : List PyData} (h : hdM d = some (n, ms)) : nodess ms + 1 ≤ nodes d := by
  unfold hdM at h
  split at h
  · cases h
    simp [nodess, nodes]
  · split at h
    · cases h
      simp only [nodes, nodess]
      omega
    · cases h
  · cases h
theorem hdM_shorts {d : PyData} {n : Str} {ms : List PyData} (h : hdM d = some (n, ms)) (s : shorts d) : shortss ms := by
  unfold hdM at h
  split at h
  · cases h
    trivial
  · split at h
    · cases h
      simp only [shorts, shortss] at s
      exact s.2.2.1
    · cases h
  · cases h
theorem shortss_app : ∀ {a b : List PyData}, shortss (a ++ b) ↔ shortss a ∧ shortss b
  | [], b => by simp [shortss]
  | x :: a, b => by simp only [List.cons_append, shortss, shortss_app (a := a), and_assoc]
theorem nodes_pos (d : PyData) : 1 ≤ nodes d := by cases d <;> simp [nodes]
theorem len_nodess : ∀ (ds : List PyData), ds.length ≤ nodess ds
  | [] => Nat.zero_le _
  | d :: ds => by
    have := nodes_pos d
    have := len_nodess ds
    simp only [List.length_cons, nodess]
    omega
theorem q_whenM {t : TT} {tu tz : TS} {D : Ends} {σ : L2.St} {H : Hp} {b : Bool} (M : L2.St → Hp → Prop) (h : EvT t σ H b) (k : ∀ σ' H', M σ' H' → tz D σ' H')
    (h1 : ∀ R : L2.St → Hp → Prop, (∀ σ' H', M σ' H' → R σ' H') → b = true → ∀ H1, Ex H H1 → tu { D with nx := R } σ H1) (h2 : b = false → ∀ H1, Ex H H1 → M σ H1) : tSeq (tIfS t tu tNext) tz D σ H :=
  q_when h (h1 (tz D) k) fun hb H1 e => k σ H1 (h2 hb H1 e)
theorem s_dropP {te : TE} {D : Ends} {σ : L2.St} {H : Hp} (h : te σ H fun v H1 => D.nx σ H1) : tDrop te D σ H := h
theorem dxa_snoc {K : PySem.W.Frag} {H : Hp} : ∀ {vs : List V} {ds : List PyData}, DxAll K H vs ds → ds ≠ [] → ∃ us x es d, vs = us ++ [x] ∧ ds = es ++ [d] ∧ DxAll K H us es ∧ Dx K H x d
  | _, _, .nil, h => (h rfl).elim
  | _, _, .cons (v := v) (vs := []) (d := d) (ds := ds) h1 h2, _ => by
    cases h2
    exact ⟨[], v, [], d, rfl, rfl, .nil, h1⟩
  | _, _, .cons (v := v) (vs := w :: vs) (d := d) (ds := ds) h1 h2, _ => by
    have hne : ds ≠ [] := by
      cases h2
      exact List.cons_ne_nil _ _
    obtain ⟨us, x, es, e, a1, a2, a3, a4⟩ := dxa_snoc h2 hne
    exact ⟨v :: us, x, d :: es, e, by rw [a1]; rfl, by rw [a2]; rfl, .cons h1 a3, a4⟩
theorem dxa_app {K : PySem.W.Frag} {H : Hp} {ws : List V} {es : List PyData} (h2 : DxAll K H ws es) : ∀ {vs : List V} {ds : List PyData}, DxAll K H vs ds → DxAll K H (vs ++ ws) (ds ++ es)
  | _, _, .nil => h2
  | _, _, .cons a b => .cons a (dxa_app h2 b)
end NL
/-! a comprehension with two for: what is in tuples of a tuple, one behind the other -/
namespace NL
open PySem L2 Evl
theorem piTK {X : Cx} {K : PySem.W.Frag} {tg e : Expr} {tl : TE} (hK : X.K = K) (he : PE X e tl) : PI X tg e (iTup K tl) := by
  subst hK
  exact pi_tup he
theorem inSK {X : Cx} {K : PySem.W.Frag} (h : X.K = K) : OpR X (compareOp .In) (rIn K false) := by subst h; exact op_in_seq
theorem notInSK {X : Cx} {K : PySem.W.Frag} (h : X.K = K) : OpR X (compareOp .NotIn) (rIn K true) := by subst h; exact op_notIn_seq
theorem plLK {X : Cx} {K : PySem.W.Frag} {tg e : Expr} {tl : TE} (hK : X.K = K) (he : PE X e tl) : PI X tg e (iList K tl) := by
  subst hK
  exact pi_list he
end NL
/-! sets of texts, made of a list or a tuple; how many are in them -/
namespace NL
open PySem PySem.Spec PyProof.Rows L2 Evl
/-- just these texts lie in the set at S, and as many as they are where all are unlike -/
def TextSet (P : Program) (w : World) (h : Heap) (S : Addr) (xs : List Str) : Prop := ∃ n, h.SetOf (strKind P w) S (fun k => decide (k ∈ xs)) n ∧ n ≤ xs.length ∧ (n = xs.length ↔ xs.Nodup)
theorem nodup_app {xs : List Str} {x : Str} : (xs ++ [x]).Nodup ↔ xs.Nodup ∧ x ∉ xs := by
  rw [List.nodup_append]
  constructor
  · rintro ⟨a, b, c⟩
    exact ⟨a, fun h => c x h x (List.mem_singleton.mpr rfl) rfl⟩
  · rintro ⟨a, b⟩
    exact ⟨a, by simp, fun y hy z hz e => by rw [List.mem_singleton.mp hz] at e; subst e; exact b hy⟩
theorem TextSet.at {P : Program} {w : World} {h h' : Heap} {S : Addr} {xs : List Str} (t : TextSet P w h S xs) (k : ∀ o, h.get? S = some o → h'.get? S = some o) : TextSet P w h' S xs := by
  obtain ⟨n, ⟨o, es, ep, tb, ho, rest⟩, r⟩ := t
  exact ⟨n, ⟨o, es, ep, tb, k _ ho, rest⟩, r⟩
section
variable {P : Program} {w : World} {A : Around} {R : Result → Shared → Prop} {J : Addr} {fp wr : List Addr} {G : Array GenState → Array GenState → Prop} {m : Nat} {V1 : Nat → Value → Prop} {St : Nat → Shared → Prop}
/-- what walks over texts lays them all into the set -/
theorem walk_into (W : WalksS P w A.in1 J fp wr G m V1 St) {S : Addr} (off : S ∉ fp) (xs : List Str) (len : xs.length = m) (few : m + 1 < scanBound) (text : ∀ i v, V1 i v → ∃ t, v = .str (xs.getD i Str.empty) t) :
    ∀ (left i : Nat) (s : Shared), i + left = m → St i s → TextSet P w s.heap S (xs.take i) → (∀ s', Moved (S :: wr) G s s' → TextSet P w s'.heap S xs → R (.ok (.ret .none)) s') →
      codeAny (model P w) A (.builtin "set.update.loop" ⟨[.ref S, .ref J], []⟩) R s := by
  have offw : S ∉ wr := fun z => off (W.sub _ z)
  have more : ∀ b ∈ wr, b ∈ S :: wr := fun b z => List.mem_cons_of_mem _ z
  intro left
  induction left with
  | zero =>
    intro i s hi here has fin
    have e : i = m := by omega
    subst e
    rw [List.take_of_length_le (by omega)] at has
    refine codeAny_builtin PyProof.Rows.F.entry_set_update_loop ?_
    rw [Around.under_plainId PyProof.Rows.F.plain_set_update_loop]
    change wpAny _ A.in1 (pyNext (.ref J) >>= _) _ _ _
    refine wpAny_bind (W.done s _ _ here fun s1 mv => ?_)
    change wpAny _ A.in1 (ret Value.none) _ _ _
    exact wpAny_pure (fin s1 (mv.mono more) (has.at fun o ho => mv.heap S o offw ho))
  | succ left again =>
    intro i s hi here has fin
    refine codeAny_builtin PyProof.Rows.F.entry_set_update_loop ?_
    rw [Around.under_plainId PyProof.Rows.F.plain_set_update_loop]
    change wpAny _ A.in1 (pyNext (.ref J) >>= _) _ _ _
    refine wpAny_bind (W.item i s _ _ (by omega) here fun v s1 hv next mv => ?_)
    obtain ⟨t, rfl⟩ := text i v hv
    have has1 := has.at (h' := s1.heap) fun o ho => mv.heap S o offw ho
    generalize hx : xs.getD i Str.empty = x
    have hlt : i < xs.length := by omega
    have tk1 : xs.take (i + 1) = xs.take i ++ [x] := by
      rw [← hx, List.getD_eq_getElem?_getD, List.getElem?_eq_getElem hlt, List.take_succ_eq_append_getElem hlt]
      rfl
    change wpAny _ A.in1 (holding [Value.str x t] (setAdd S (.str x t)) >>= _) _ _ _
    refine wpAny_bind (wpAny_holding ?_)
    unfold setAdd
    refine wpAny_holding (wpAny_bind ((strKind P w).pyHash (k := x) (strKind_is _ _ _ _) ?_))
    obtain ⟨n, hs, hn, hnd⟩ := has1
    have hl : (xs.take i).length = i := by rw [List.length_take]; omega
    refine wpAny_setAddHashed_of (knd := strKind P w) (s := { s1 with toks := s1.toks + 1 }) (strKind_is _ _ _ _) rfl hs (by omega) fun h2 but hs2 => ?_
    have has2 : TextSet P w h2 S (xs.take (i + 1)) := by
      rw [tk1]
      refine ⟨_, SetOf_congr hs2 (S' := fun k => decide (k ∈ xs.take i ++ [x])) (fun k => ?_) rfl, ?_, ?_⟩
      · simp
      · rw [List.length_append, List.length_singleton]
        split <;> omega
      · rw [nodup_app, List.length_append, List.length_singleton, ← hnd]
        by_cases hm : x ∈ xs.take i
        · rw [if_pos (decide_eq_true hm)]
          constructor
          · intro z
            omega
          · intro z
            exact absurd hm z.2
        · rw [if_neg (by simp [hm])]
          constructor
          · intro z
            exact ⟨by omega, hm⟩
          · intro z
            omega
    refine wpAny_pure ⟨plainId_quiet PyProof.Rows.F.plain_set_update_loop _, again (i + 1) _ (by omega) (W.frame _ s1 _ _ next (Nat.le_succ _) fun b z o e => ?_) has2 fun s2 mv2 has3 => ?_⟩
    · rw [but.2 b (fun y => off (y ▸ z))]
      exact e
    · refine fin s2 (Moved.trans W.gtrans ((mv.mono more).then_heap (Nat.le_succ _) fun b o z e => ?_) mv2) has3
      rw [but.2 b (fun y => z (y ▸ List.mem_cons_self))]
      exact e
end
/-- a set as it is made, with nothing in it -/
abbrev bareSet (led : Bool) : Obj := { cls := .type "set", dict := none, data := .set #[] 0 (.fresh 0 0 led) }
section
variable {P : Program} {w : World} {A : Around} {E : Value → Shared → Prop} {s : Shared} {l : Addr} {its : Array Value} {xs : List Str} {Q : Value → Shared → Prop}
theorem bare_has {h : Heap} {S : Addr} {led : Bool} (e : h.get? S = some (bareSet led)) : TextSet P w h S [] := by
  refine ⟨0, SetOf_congr (S' := fun k => decide (k ∈ ([] : List Str))) ((setObjOf_fresh (knd := strKind P w) led).setOf e (by decide)) (fun k => by simp) rfl, Nat.le_refl _, by simp⟩
/-- set(texts) of a list -/
theorem set_list (calm : A.handled = none) (hl : s.heap.IsList l its) (hx : StrsAre its.toList xs) (few : its.size + 1 < scanBound)
    (told : ∀ (h2 : Heap) (tk : Nat), TextSet P w h2 s.heap.objs.size xs → (∀ b o, b < s.heap.objs.size → s.heap.get? b = some o → h2.get? b = some o) → Q (.ref s.heap.objs.size) { s with heap := h2, toks := tk }) :
    wpAny (model P w) A (call (.type "set") [.ref l]) Q E s := by
  have made := PySem.F.called_set
  obtain ⟨top, rest, mro⟩ := made.mro
  have y1 := made.made
  have y2 := made.sub
  have y3 := made.notType
  have y4 := made.canCreate
  have y5 := PySem.F.typeCall_set_1 (.ref l)
  refine wpAny_call (codeAny_of_tree ?_)
  change wpAny _ _ (callAny (.type "set") _) _ _ _
  refine wpAny_pure ⟨Code.quiet_builtin _ (by decide +kernel), codeAny_builtin PySem.F.entry_type_call ?_⟩
  rw [Around.under_plain (weight_type_call_type "set" [.ref l] []) rfl]
  repeat (any_goals (first | assumption | wp_step))
  refine codeAny_mono (code_set_new_1 (.ref l) (E := E) (Q₁ := fun v s1 => ∃ led : Bool, v = .ref s.heap.objs.size ∧ s1 = { s with heap := s.heap.push (bareSet led) }) fun led => ⟨led, rfl, rfl⟩) fun r s1 got => ?_
  match r, got with
  | .error e, got => exact got
  | .ok .next, got => exact got.elim
  | .ok .brk, got => exact got.elim
  | .ok .cont, got => exact got.elim
  | .ok (.ret v), got =>
    obtain ⟨led, rfl, rfl⟩ := got
    have at1 : (s.heap.push (bareSet led)).get? s.heap.objs.size = some (bareSet led) := Heap.get?_push_size _ rfl
    have ty1 : Shared.TypeIs { s with heap := s.heap.push (bareSet led) } (.ref s.heap.objs.size) "set" := ⟨_, at1, rfl⟩
    have y6 := made.init.lookup
    have y7 := made.init.bind (.ref s.heap.objs.size)
    repeat (any_goals (first | assumption | wp_step))
    refine codeAny_mono (codeAny_call_builtin (R := wants (fun u s2 => u = .none ∧ ∃ h2 tk, s2 = { s with heap := h2, toks := tk } ∧ TextSet P w h2 s.heap.objs.size xs ∧ ∀ b o, b < s.heap.objs.size → s.heap.get? b = some o → h2.get? b = some o) E) made.init.plain PySem.F.entry_set_init (check_set_init_1 ty1 ?_)) fun r2 s2 got2 => ?_
    · obtain ⟨ob, at2, cl, nn, dt⟩ := hl
      obtain ⟨_, od, _, os⟩ := ob
      simp only at cl dt
      subst cl dt
      have at3 := Heap.get?_push_of_some (bareSet led) at2
      have y8 := PySem.F.sub_list_set
      have y9 := PySem.F.sub_list_frozenset
      have y0 : (Value.type "list" == Value.type "dict") = false := by decide
      have lst1 : (s.heap.push (bareSet led)).IsList l its := ⟨_, at3, rfl, nn, rfl⟩
      unfold Builtin.«set.__init__» noKeywords Builtin.Frozenset.updateFrom
      generalize hit : pyIter = it
      wp_walk
      subst hit
      refine wpAny_pyIter_list lst1 (wpAny_bind (wpAny_runValue ?_))
      have low : l < s.heap.objs.size := Heap.lt_size at2
      have apart : l ≠ (s.heap.push (bareSet led)).objs.size := by
        rw [Heap.size_push]
        exact Nat.ne_of_lt (Nat.lt_succ_of_lt low)
      have off : s.heap.objs.size ∉ [(s.heap.push (bareSet led)).objs.size, l] := by
        rw [Heap.size_push]
        simp only [List.mem_cons, List.not_mem_nil, or_false, not_or]
        exact ⟨Nat.ne_of_lt (Nat.lt_succ_self _), Nat.ne_of_gt low⟩
      have len : xs.length = its.size := by
        rw [← StrsAre.len_eq hx, Array.length_toList]
      refine walk_into ((Walks.list (by simp [calm]) _ l apart its).toS) off xs len few (fun i v hv => SS.strs_at hx i v (by rw [Array.getElem?_toList]; exact hv)) its.size 0 _ (by omega) ⟨⟨_, Heap.get?_push_size _ rfl, rfl, rfl⟩, lst1.push _⟩ ?first ?last
      case first =>
        exact bare_has (led := led) (Heap.get?_push_of_some _ at1)
      case last =>
        intro s3 mv has
        obtain ⟨h3, g3, d3, t3, o3⟩ := s3
        have e1 : g3 = s.gens := mv.gens
        have e2 : d3 = s.drawn := mv.drawn
        have e3 : o3 = s.os := mv.os
        subst e1 e2 e3
        change wpAny _ _ _ _ _ _
        refine wpAny_pure ?_
        change wpAny _ _ (ret Value.none) _ _ _
        refine wpAny_pure ⟨rfl, h3, t3, rfl, has, fun b o lt e => mv.heap b o ?_ (Heap.get?_push_of_some _ (Heap.get?_push_of_some _ e))⟩
        rw [Heap.size_push]
        simp only [List.mem_cons, List.not_mem_nil, or_false, not_or]
        exact ⟨Nat.ne_of_lt lt, Nat.ne_of_lt (Nat.lt_succ_of_lt lt)⟩
    · match r2, got2 with
      | .error e, got2 => exact got2
      | .ok .next, got2 => exact got2.elim
      | .ok .brk, got2 => exact got2.elim
      | .ok .cont, got2 => exact got2.elim
      | .ok (.ret u), got2 =>
        obtain ⟨rfl, h2, tk, rfl, has, old⟩ := got2
        repeat (any_goals (first | assumption | wp_step))
        exact told h2 tk has old
end
end NL
/-! sequences against empty ones; xs[::-1] of a tuple; data with their dicts, repr and str of them -/
namespace NL
open PySem PySem.Spec PyProof.Rows L2 Evl
section
variable {X : Cx} {K : PySem.W.Frag}
def rEqL0 (K : PySem.W.Frag) (f : Bool → Bool) : R2 := fun x y H Q => ∃ a b xs, x = .ref a ∧ y = .ref b ∧ SqL K H a xs ∧ SqL K H b [] ∧ Q (.bl (f xs.isEmpty)) H
theorem vals0 {us : List Value} (h : Vals [] us) : us = [] := by cases h; rfl
theorem vals_isE {xs : List V} {us : List Value} (h : Vals xs us) : us.isEmpty = xs.isEmpty := by
  cases h <;> rfl
theorem eqL0K (h : X.K = K) (hu : X.A.units < cLine) : OpR X (compareOp .Eq) (rEqL0 K id) := by
  subst h
  intro pins s σ H x y v u Q I rx ry told
  obtain ⟨a, b, xs, rfl, rfl, ha, hb, q⟩ := told
  cases rx
  cases ry
  obtain ⟨its, r1, p1, _⟩ := I.list ha
  obtain ⟨its2, r2, p2, _⟩ := I.list hb
  have e := vals0 r2
  subst e
  have ie := vals_isE r1
  cases its with
  | nil =>
    refine SeqAt.eq_listAt (e := fun _ => true) p1.isList p2.isList rfl hu (fun j _ h2 => absurd h2 (by simp)) ?_
    refine ⟨.bl xs.isEmpty, H, I, ?_, q⟩
    rw [← ie]
    rfl
  | cons i r =>
    refine SeqAt.eq_list_lengthsAt p1.isList p2.isList (by simp) hu ?_
    refine ⟨.bl xs.isEmpty, H, I, ?_, q⟩
    rw [← ie]
    rfl
end
/-! ### xs[::-1] of a tuple -/
/-! ### data with all that is in them -/
mutual
inductive Dy (K : PySem.W.Frag) (H : Hp) : V → PyData → Prop
  | non : Dy K H .non .none
  | bl (b : Bool) : Dy K H (.bl b) (.bool b)
  | int (i : Int) : Dy K H (.int i) (.int i)
  | str (x : Str) : Dy K H (.str x) (.str x)
  | lst {a : Addr} {xs : List V} {ds : List PyData} : H a = some (.lst xs) → DyAll K H xs ds → Dy K H (.ref a) (.list ds)
  | tup {a : Addr} {xs : List V} {ds : List PyData} : SqT K H a xs → DyAll K H xs ds → Dy K H (.ref a) (.tuple ds)
  | dct {a : Addr} : H a = some (.dK []) → Dy K H (.ref a) (.dict [])
  | dc1 {a : Addr} {z : Str} {v : V} {d : PyData} : H a = some (.dK [(Sum.inr z, v)]) → Dy K H v d → Dy K H (.ref a) (.dict [(.str z, d)])
inductive DyAll (K : PySem.W.Frag) (H : Hp) : List V → List PyData → Prop
  | nil : DyAll K H [] []
  | cons {v : V} {vs : List V} {d : PyData} {ds : List PyData} : Dy K H v d → DyAll K H vs ds → DyAll K H (v :: vs) (d :: ds)
end
mutual
theorem dy_mono {K : PySem.W.Frag} {H H' : Hp} (e : Ex H H') : ∀ {d : PyData} {v : V}, Dy K H v d → Dy K H' v d
  | .none, _, h => by cases h; exact .non
  | .bool b, _, h => by cases h; exact .bl b
  | .int i, _, h => by cases h; exact .int i
  | .str x, _, h => by cases h; exact .str x
  | .list ds, _, h => by
    cases h with
    | lst hs ha => exact .lst (e _ _ hs) (dya_mono e ha)
  | .tuple ds, _, h => by
    cases h with
    | tup hs ha => exact .tup (ex_t e hs) (dya_mono e ha)
  | .dict [], _, h => by
    cases h with
    | dct hd => exact .dct (e _ _ hd)
  | .dict [(.str z, d)], _, h => by
    cases h with
    | dc1 hd hv => exact .dc1 (e _ _ hd) (dy_mono e hv)
theorem dya_mono {K : PySem.W.Frag} {H H' : Hp} (e : Ex H H') : ∀ {ds : List PyData} {vs : List V}, DyAll K H vs ds → DyAll K H' vs ds
  | [], _, h => by cases h; exact .nil
  | d :: ds, _, h => by
    cases h with
    | cons h1 h2 => exact .cons (dy_mono e h1) (dya_mono e h2)
end
mutual
theorem dy_dx {K : PySem.W.Frag} {H : Hp} : ∀ {d : PyData} {v : V}, Dy K H v d → Dx K H v d
  | .none, _, h => by cases h; exact .non
  | .bool b, _, h => by cases h; exact .bl b
  | .int i, _, h => by cases h; exact .int i
  | .str x, _, h => by cases h; exact .str x
  | .list ds, _, h => by
    cases h with
    | lst hs ha => exact .lst (sq_of hs) (dya_dx ha)
  | .tuple ds, _, h => by
    cases h with
    | tup hs ha => exact .tup hs (dya_dx ha)
  | .dict kvs, _, h => by
    cases h with
    | dct hd => exact .dct hd
    | dc1 hd _ => exact .dct hd
theorem dya_dx {K : PySem.W.Frag} {H : Hp} : ∀ {ds : List PyData} {vs : List V}, DyAll K H vs ds → DxAll K H vs ds
  | [], _, h => by cases h; exact .nil
  | d :: ds, _, h => by
    cases h with
    | cons h1 h2 => exact .cons (dy_dx h1) (dya_dx h2)
end
theorem pairs_one {P : Program} {w : World} {es : List DictEntry} {q : Key × Value} (h : Pairs (mixKind P w) es [q]) : ∃ en : DictEntry, es = [en] ∧ (mixKind P w).is q.1 en.key = true ∧ en.val = q.2 := by
  cases h with
  | cons h1 h2 t =>
    cases t
    exact ⟨_, rfl, h1, h2⟩
theorem key_str {P : Program} {w : World} {z : Str} {v : Value} (h : (mixKind P w).is (Sum.inr z) v = true) : ∃ t, v = .str z t := by
  rcases keyIs_shape (k := Sum.inr z) (v := v) h with ⟨i, t, e, _⟩ | ⟨x, t, e, r⟩
  · cases e
  · cases e
    exact ⟨t, r⟩
/-- the modules' dict lies apart from all that is made here -/
def Sy (K : PySem.W.Frag) (H : Hp) : Prop := (∃ o, K.lookup sysModules = some o) ∨ ∃ o u, H sysModules = some (.frz o u)
theorem Sy.ex {K : PySem.W.Frag} {H H' : Hp} (h : Sy K H) (e : Ex H H') : Sy K H' := by
  rcases h with h | ⟨o, u, h⟩
  · exact Or.inl h
  · exact Or.inr ⟨o, u, e _ _ h⟩
theorem Sy.kp {K : PySem.W.Frag} {H H' : Hp} {h l : Addr} (y : Sy K H) (A : Hand H h l) (k : Kp h l H H') : Sy K H' := by
  rcases y with y | ⟨o, u, y⟩
  · exact Or.inl y
  · obtain ⟨n, m⟩ := A.off y (fun _ z => by cases z)
    exact Or.inr ⟨o, u, k _ _ n m y⟩
section
variable {X : Cx} {pins : List (Addr × Obj)} {σ : L2.St} {H : Hp} {s : Shared}
theorem Sy.ne (I : Inv X pins σ H s) (y : Sy X.K H) {a : Addr} {o : HO} (h : H a = some o) (no : ∀ ob u, o ≠ .frz ob u) : a ≠ sysModules := by
  intro e
  subst e
  rcases y with ⟨ob, y⟩ | ⟨ob, u, y⟩
  · have := (I.bs _ _ (I.mod.kin _ _ y)).2
    rw [h] at this
    cases this
  · rw [h] at y
    cases y
    exact no _ _ rfl
mutual
theorem Dy.reads (I : Inv X pins σ H s) (y : Sy X.K H) : ∀ (d : PyData) (v : V) (u : Value), Dy X.K H v d → RelV v u → ∃ as, Reads s.heap u d as ∧ sysModules ∉ as
  | .none, _, _, h, r => by
    cases h
    cases r
    exact ⟨_, .none, by simp⟩
  | .bool b, _, _, h, r => by
    cases h
    cases r
    exact ⟨_, .bool b, by simp⟩
  | .int i, _, _, h, r => by
    cases h
    obtain ⟨t, rfl⟩ := r
    exact ⟨_, .int i t, by simp⟩
  | .str x, _, _, h, r => by
    cases h
    obtain ⟨t, rfl⟩ := r
    exact ⟨_, .str x t, by simp⟩
  | .list ds, _, _, h, r => by
    cases h with
    | lst hs ha =>
      cases r
      have ne := Sy.ne I y hs (fun _ _ z => by cases z)
      obtain ⟨its, rv, ⟨o, n, ho, hc, _, hd⟩, _⟩ := I.list (sq_of hs)
      obtain ⟨as, hr, hn⟩ := Dy.readsAll I y ds _ its ha rv
      exact ⟨_, .list ho hc hd hr, by simp only [List.mem_cons, not_or]; exact ⟨fun z => ne z.symm, hn⟩⟩
  | .tuple ds, _, _, h, r => by
    cases h with
    | tup hs ha =>
      cases r
      obtain ⟨its, rv, ⟨o, ho, hc, n, hd⟩, _⟩ := I.tuple hs
      obtain ⟨as, hr, hn⟩ := Dy.readsAll I y ds _ its ha rv
      exact ⟨_, .tuple ho hc hd hr, hn⟩
  | .dict [(.str z, d)], _, _, h, r => by
    cases h with
    | dc1 hd hv =>
      cases r
      obtain ⟨_, low, vs, rel, o, es, ep, ho, hex, hdt, hks, hp, _⟩ := dk_of I.hok hd
      have ne : ¬ sysModules = _ := fun z => (beq_eq_false_iff_ne.mp low) z.symm
      obtain ⟨q, rfl, hq1, hq2⟩ : ∃ q : Key × Value, vs = [q] ∧ (Sum.inr z : Key) = q.1 ∧ RelV _ q.2 := by
        cases rel with
        | cons r t =>
          cases t
          exact ⟨_, rfl, r.1, r.2⟩
      obtain ⟨en, he, hk, hval⟩ : ∃ en : DictEntry, es.toList = [en] ∧ (mixKind X.prog X.w).is q.1 en.key = true ∧ en.val = q.2 := pairs_one hp
      have hkey : ∃ t, en.key = .str z t := by
        rw [← hq1] at hk
        exact key_str hk
      obtain ⟨t, hkey⟩ := hkey
      obtain ⟨as, rd, hn⟩ := Dy.reads I y d _ _ hv (by rw [← hval] at hq2; exact hq2)
      have rk : Reads s.heap en.key (.str z) [] := by
        rw [hkey]
        exact .str z t
      refine ⟨_, .dict (kvs := [(.str z, d)]) ho hex.1 hdt (by rw [he]; exact .cons rk .nil) (by rw [he]; exact .cons rd .nil), ?_⟩
      simp only [List.append_nil, List.mem_append, List.mem_cons, List.not_mem_nil, or_false, not_or]
      exact ⟨ne, hn⟩
  | .dict [], _, _, h, r => by
    cases h with
    | dct hd =>
      cases r
      obtain ⟨_, low, vs, rel, o, es, ep, ho, hex, hdt, _, hp, _⟩ := dk_of I.hok hd
      cases rel
      have e0 : es.toList = [] := by
        cases h0 : es.toList with
        | nil => rfl
        | cons e r => rw [h0] at hp; cases hp
      have ne : ¬ sysModules = _ := fun z => (beq_eq_false_iff_ne.mp low) z.symm
      refine ⟨_, .dict (kvs := []) (as := []) (bs := []) ho hex.1 hdt (by rw [e0]; exact .nil) (by rw [e0]; exact .nil), ?_⟩
      simp only [List.append_nil, List.mem_singleton]
      exact ne
theorem Dy.readsAll (I : Inv X pins σ H s) (y : Sy X.K H) : ∀ (ds : List PyData) (vs : List V) (us : List Value), DyAll X.K H vs ds → Vals vs us → ∃ as, ReadsAll s.heap us ds as ∧ sysModules ∉ as
  | [], _, _, h, r => by
    cases h
    cases r
    exact ⟨_, .nil, by simp⟩
  | d :: ds, _, _, h, r => by
    cases h with
    | cons h1 h2 =>
      cases r with
      | cons r1 r2 =>
        obtain ⟨as, q1, n1⟩ := Dy.reads I y d _ _ h1 r1
        obtain ⟨bs, q2, n2⟩ := Dy.readsAll I y ds _ _ h2 r2
        exact ⟨_, .cons q1 q2, by rw [List.mem_append]; exact fun z => z.elim n1 n2⟩
end
end
end NL
/-! how much a datum weighs, which signs and numbers are in it; what is set aside of a heap -/
namespace NL
open PySem PySem.Spec PyProof.Rows L2 Evl
def asc (x : Str) : Prop := ∀ c ∈ x.cps.toList, c < 128
theorem asc_app {a b : Str} (ha : asc a) (hb : asc b) : asc (a ++ b) := fun c hc => by
  rcases mem_cps_append.mp hc with h | h
  · exact ha c h
  · exact hb c h
theorem asc_join {sep : Str} (hs : asc sep) {ts : List Str} (ht : ∀ t ∈ ts, asc t) : asc (Str.join sep ts) := fun c hc => by
  rcases (mem_join sep c ts).mp hc with ⟨t, h1, h2⟩ | ⟨_, h⟩
  · exact ht t h1 c h2
  · exact hs c h
theorem asc_lit {s : String} (h : s.toList.all (fun c => decide (c.toNat < 128)) = true) : asc (Str.ofString s) := fun c hc => by
  rw [signs_ofString] at hc
  obtain ⟨ch, h1, rfl⟩ := List.mem_map.mp hc
  exact of_decide_eq_true (List.all_eq_true.mp h ch h1)
theorem asc_int (i : Int) : asc (Str.ofString (toString i)) := fun c hc => by
  rw [signs_ofString] at hc
  obtain ⟨ch, h1, rfl⟩ := List.mem_map.mp hc
  rcases int_sign i ch h1 with h | h
  · have := digit_range h
    omega
  · subst h
    decide
theorem asc_from : ∀ {ts : List Str} {k : Nat} {acc : Str}, asc acc → (∀ t ∈ ts, asc t) → asc (textFrom k acc ts)
  | [], _, _, h, _ => h
  | t :: ts, k, acc, h, ht => by
    unfold textFrom
    refine asc_from (asc_app (asc_app h ?_) (ht t (List.mem_cons_self ..))) fun u hu => ht u (List.mem_cons_of_mem _ hu)
    split
    · exact asc_lit (by decide)
    · exact asc_lit (by decide)
theorem char_asc : ∀ q, q = 34 ∨ q = 39 → ∀ c, c < 128 → ∀ x ∈ Builtin.Str.reprChar q c, x < 128 := by
  have h : ((List.range 128).all fun c => ((Builtin.Str.reprChar 34 c).all fun x => decide (x < 128)) && ((Builtin.Str.reprChar 39 c).all fun x => decide (x < 128))) = true := by decide +kernel
  intro q hq c hc x hx
  have h1 := List.all_eq_true.mp h c (List.mem_range.mpr hc)
  rw [Bool.and_eq_true] at h1
  rcases hq with rfl | rfl
  · exact of_decide_eq_true (List.all_eq_true.mp h1.1 x hx)
  · exact of_decide_eq_true (List.all_eq_true.mp h1.2 x hx)
theorem asc_repr {x : Str} (h : asc x) : asc (reprText x) := by
  have hq : reprQuote x = 34 ∨ reprQuote x = 39 := by
    unfold reprQuote
    split
    · exact Or.inl rfl
    · exact Or.inr rfl
  have q1 : reprQuote x < 128 := by rcases hq with h | h <;> omega
  have all : ∀ (l : List Nat) (acc : Array Nat), (∀ c ∈ acc.toList, c < 128) → (∀ c ∈ l, c < 128) → ∀ c ∈ (l.foldl (fun out c => out ++ (Builtin.Str.reprChar (reprQuote x) c).toArray) acc).toList, c < 128 := by
    intro l
    induction l with
    | nil => intro acc ha _; exact ha
    | cons a l ih =>
      intro acc ha hl
      rw [List.foldl_cons]
      refine ih _ (fun c hc => ?_) fun c hc => hl c (List.mem_cons_of_mem _ hc)
      rw [Array.toList_append] at hc
      rcases List.mem_append.mp hc with hc | hc
      · exact ha c hc
      · exact char_asc _ hq a (hl a (List.mem_cons_self ..)) c (by simpa using hc)
  intro c hc
  unfold reprText at hc
  simp only [Array.toList_push, List.mem_append, List.mem_singleton] at hc
  rcases hc with hc | hc
  · rw [← Array.foldl_toList] at hc
    exact all _ #[reprQuote x] (fun c hc => by simp at hc; omega) h c hc
  · omega
mutual
def wt : PyData → Nat
  | .str s => 10 * s.length + 10
  | .int _ => 60
  | .list ds => wts ds + 10
  | .tuple ds => wts ds + 10
  | .dict kvs => wtk kvs + 10
  | _ => 10
def wts : List PyData → Nat
  | [] => 0
  | d :: ds => wt d + wts ds
def wtk : List (PyData × PyData) → Nat
  | [] => 0
  | (k, v) :: r => wt k + wt v + wtk r
end
mutual
def okD (B : Nat) : PyData → Prop
  | .str s => asc s
  | .int i => i.natAbs ≤ B
  | .list ds => okDs B ds
  | .tuple ds => okDs B ds
  | .dict kvs => okK B kvs
  | _ => True
def okDs (B : Nat) : List PyData → Prop
  | [] => True
  | d :: ds => okD B d ∧ okDs B ds
def okK (B : Nat) : List (PyData × PyData) → Prop
  | [] => True
  | (k, v) :: r => okD B k ∧ okD B v ∧ okK B r
end
theorem list_len (ts : List Str) : (listText ts).length ≤ (ts.map fun t => t.length + 2).sum + 3 := by
  have all : ∀ (ts : List Str) (k : Nat) (acc : Str), (textFrom k acc ts).length ≤ acc.length + (ts.map fun t => t.length + 2).sum := by
    intro ts
    induction ts with
    | nil => intro k acc; simp [textFrom]
    | cons t ts ih =>
      intro k acc
      have h := ih (k + 1) (acc ++ (if k > 0 then ", " else "" : String) ++ t)
      have e : (Str.ofString (if k > 0 then ", " else "" : String)).length ≤ 2 := by
        split
        · decide +kernel
        · decide +kernel
      rw [Str.length_append, Str.length_append] at h
      simp only [textFrom, List.map_cons, List.sum_cons]
      omega
  unfold listText
  rw [Str.length_append]
  have h := all ts 0 "["
  have e1 : ("[" : Str).length = 1 := by decide +kernel
  have e2 : (Str.ofString "]").length = 1 := by decide +kernel
  omega
mutual
/-- what a datum's text has -/
theorem text_facts {B : Nat} (hB : B < 2 ^ 44) : ∀ d : PyData, okD B d → d.showable = true ∧ d.shown.length + 2 ≤ wt d ∧ asc d.shown
  | .none, _ => ⟨by simp [PyData.showable], by simp only [PyData.shown, wt]; decide +kernel, by simp only [PyData.shown]; exact asc_lit (by decide)⟩
  | .bool b, _ => by
    refine ⟨by simp [PyData.showable], ?_, ?_⟩
    · simp only [PyData.shown, wt]
      cases b
      · decide +kernel
      · decide +kernel
    · simp only [PyData.shown]
      cases b
      · exact asc_lit (by decide)
      · exact asc_lit (by decide)
  | .int i, h => by
    simp only [okD] at h
    have bl : i.natAbs.log2 < 44 := by
      by_cases h0 : i.natAbs = 0
      · rw [h0]; decide
      · exact (Nat.log2_lt h0).mpr (by omega)
    refine ⟨?_, ?_, ?_⟩
    · simp only [PyData.showable, decide_eq_true_eq]
      omega
    · simp only [PyData.shown, wt]
      have := int_text_length_le (a := i) (k := 44) (by decide) bl
      rw [PySem.ofString_length]
      omega
    · simp only [PyData.shown]
      exact asc_int i
  | .str s, h => by
    simp only [okD] at h
    refine ⟨by simp [PyData.showable], ?_, ?_⟩
    · simp only [PyData.shown, wt]
      have := StrLaws.reprText_len s (fun c hc => Nat.lt_trans (h c hc) (by decide))
      omega
    · simp only [PyData.shown]
      exact asc_repr h
  | .list ds, h => by
    simp only [okD] at h
    obtain ⟨i1, i2, i3⟩ := texts_facts hB ds h
    refine ⟨by simp only [PyData.showable]; exact i1, ?_, ?_⟩
    · simp only [PyData.shown, wt, shownAll_map]
      have := list_len (ds.map PyData.shown)
      omega
    · simp only [PyData.shown, shownAll_map]
      exact asc_app (asc_from (asc_lit (by decide)) i3) (asc_lit (by decide))
  | .tuple ds, h => by
    simp only [okD] at h
    obtain ⟨i1, i2, i3⟩ := texts_facts hB ds h
    refine ⟨by simp only [PyData.showable]; exact i1, ?_, ?_⟩
    · simp only [PyData.shown, wt, shownAll_map]
      have := tuple_len (ds.map PyData.shown)
      omega
    · simp only [PyData.shown, shownAll_map]
      refine asc_app (asc_app (asc_lit (by decide)) (asc_join (asc_lit (by decide)) i3)) ?_
      split
      · exact asc_lit (by decide)
      · exact asc_lit (by decide)
  | .dict kvs, h => by
    simp only [okD] at h
    obtain ⟨i1, i2, i3⟩ := textk_facts hB kvs h
    refine ⟨by simp only [PyData.showable]; exact i1, ?_, ?_⟩
    · simp only [PyData.shown, wt, dictText]
      rw [Str.length_append, Str.length_append]
      have e1 : ("{" : Str).length = 1 := by decide +kernel
      have e2 : (Str.ofString "}").length = 1 := by decide +kernel
      have e3 : (", " : Str).length = 2 := by decide +kernel
      have hj := join_len ", " (PyData.shownKv kvs)
      rw [e3] at hj
      omega
    · simp only [PyData.shown, dictText]
      exact asc_app (asc_app (asc_lit (by decide)) (asc_join (asc_lit (by decide)) i3)) (asc_lit (by decide))
theorem texts_facts {B : Nat} (hB : B < 2 ^ 44) : ∀ ds : List PyData, okDs B ds → PyData.showableAll ds = true ∧ ((ds.map PyData.shown).map fun t => t.length + 2).sum ≤ wts ds ∧ ∀ t ∈ ds.map PyData.shown, asc t
  | [], _ => by simp [PyData.showableAll, wts]
  | d :: ds, h => by
    simp only [okDs] at h
    obtain ⟨i1, i2, i3⟩ := text_facts hB d h.1
    obtain ⟨j1, j2, j3⟩ := texts_facts hB ds h.2
    refine ⟨by simp only [PyData.showableAll, i1, j1]; rfl, ?_, ?_⟩
    · simp only [List.map_cons, List.sum_cons, wts]
      omega
    · intro t ht
      rcases List.mem_cons.mp ht with rfl | ht
      · exact i3
      · exact j3 t ht
theorem textk_facts {B : Nat} (hB : B < 2 ^ 44) : ∀ kvs : List (PyData × PyData), okK B kvs → PyData.showableKv kvs = true ∧ ((PyData.shownKv kvs).map fun t => t.length + 2).sum ≤ wtk kvs ∧ ∀ t ∈ PyData.shownKv kvs, asc t
  | [], _ => by simp [PyData.showableKv, PyData.shownKv, wtk]
  | (a, b) :: r, h => by
    simp only [okK] at h
    obtain ⟨i1, i2, i3⟩ := text_facts hB a h.1
    obtain ⟨j1, j2, j3⟩ := text_facts hB b h.2.1
    obtain ⟨k1, k2, k3⟩ := textk_facts hB r h.2.2
    have e2 : (Str.ofString ": ").length = 2 := by decide +kernel
    refine ⟨by simp only [PyData.showableKv, i1, j1, k1]; rfl, ?_, ?_⟩
    · simp only [PyData.shownKv, List.map_cons, List.sum_cons, wtk, Str.length_append]
      omega
    · intro t ht
      simp only [PyData.shownKv] at ht
      rcases List.mem_cons.mp ht with rfl | ht
      · exact asc_app (asc_app i3 (asc_lit (by decide))) j3
      · exact k3 t ht
end
mutual
theorem ok_up {B C : Nat} (h : B ≤ C) : ∀ d : PyData, okD B d → okD C d
  | .none, _ => by simp [okD]
  | .bool b, _ => by simp [okD]
  | .int i, k => by simp only [okD] at k ⊢; omega
  | .str s, k => by simp only [okD] at k ⊢; exact k
  | .list ds, k => by simp only [okD] at k ⊢; exact oks_up h ds k
  | .tuple ds, k => by simp only [okD] at k ⊢; exact oks_up h ds k
  | .dict kvs, k => by simp only [okD] at k ⊢; exact okk_up h kvs k
theorem oks_up {B C : Nat} (h : B ≤ C) : ∀ ds : List PyData, okDs B ds → okDs C ds
  | [], _ => by simp [okDs]
  | d :: ds, k => by simp only [okDs] at k ⊢; exact ⟨ok_up h d k.1, oks_up h ds k.2⟩
theorem okk_up {B C : Nat} (h : B ≤ C) : ∀ kvs : List (PyData × PyData), okK B kvs → okK C kvs
  | [], _ => by simp [okK]
  | (a, b) :: r, k => by simp only [okK] at k ⊢; exact ⟨ok_up h a k.1, ok_up h b k.2.1, okk_up h r k.2.2⟩
end
mutual
theorem nodes_wt : ∀ d : PyData, 10 * nodes d ≤ wt d
  | .none => by simp [nodes, wt]
  | .bool b => by simp [nodes, wt]
  | .int i => by simp [nodes, wt]
  | .str s => by simp only [nodes, wt]; omega
  | .list ds => by have := nodess_wt ds; simp only [nodes, wt]; omega
  | .tuple ds => by have := nodess_wt ds; simp only [nodes, wt]; omega
  | .dict kvs => by simp only [nodes, wt]; omega
theorem nodess_wt : ∀ ds : List PyData, 10 * nodess ds ≤ wts ds
  | [] => by simp [nodess, wts]
  | d :: ds => by have := nodes_wt d; have := nodess_wt ds; simp only [nodess, wts]; omega
end
mutual
theorem shorts_wt {W : Nat} (hW : W ≤ 10000000) : ∀ d : PyData, wt d ≤ W → shorts d
  | .none, _ => by simp [shorts]
  | .bool b, _ => by simp [shorts]
  | .int i, _ => by simp [shorts]
  | .str s, h => by simp only [wt] at h; simp only [shorts]; omega
  | .list ds, h => by simp only [wt] at h; simp only [shorts]; exact shortss_wt hW ds (by omega)
  | .tuple ds, h => by simp only [wt] at h; simp only [shorts]; exact shortss_wt hW ds (by omega)
  | .dict kvs, _ => by simp [shorts]
theorem shortss_wt {W : Nat} (hW : W ≤ 10000000) : ∀ ds : List PyData, wts ds ≤ W → shortss ds
  | [], _ => by simp [shortss]
  | d :: ds, h => by simp only [wts] at h; simp only [shortss]; exact ⟨shorts_wt hW d (by omega), shortss_wt hW ds (by omega)⟩
end
theorem len_wts : ∀ ds : List PyData, 10 * ds.length ≤ wts ds
  | [] => by simp
  | d :: ds => by
    have := len_wts ds
    have := nodes_wt d
    have : 1 ≤ nodes d := by cases d <;> simp [nodes]
    simp only [List.length_cons, wts]
    omega
end NL
/-! some datum: a value of which it is known how much it weighs, how deep it is, what signs and numbers it has; terms that make such ones while a hand draws -/
namespace NL
open PySem PySem.Spec PyProof.Rows L2 Evl
def aside (H : Hp) (S : List Addr) : Hp := fun a => if a ∈ S then none else H a
theorem aside_at {H : Hp} {S : List Addr} {a : Addr} (h : a ∉ S) : aside H S a = H a := if_neg h
theorem aside_in {H : Hp} {S : List Addr} {a : Addr} (h : a ∈ S) : aside H S a = none := if_pos h
/-! ### a datum, and several -/
def G (K : PySem.W.Frag) (H : Hp) (v : V) (W N D B : Nat) : Prop := ∃ d, Dy K H v d ∧ wt d ≤ W ∧ nodes d ≤ N ∧ d.depth ≤ D ∧ okD B d
def GL (K : PySem.W.Frag) (H : Hp) (xs : List V) (W N D B : Nat) : Prop := ∃ ds, DyAll K H xs ds ∧ wts ds ≤ W ∧ nodess ds ≤ N ∧ PyData.depthAll ds ≤ D ∧ okDs B ds
section
variable {K : PySem.W.Frag} {H H' : Hp} {v : V} {xs ys : List V} {W N D B W' N' D' B' : Nat}
theorem G.mono (g : G K H v W N D B) (e : Ex H H') : G K H' v W N D B := by
  obtain ⟨d, h, r⟩ := g
  exact ⟨d, dy_mono e h, r⟩
theorem G.up (g : G K H v W N D B) (hW : W ≤ W') (hN : N ≤ N') (hD : D ≤ D') (hB : B ≤ B') : G K H v W' N' D' B' := by
  obtain ⟨d, h, h1, hn, h2, h3⟩ := g
  exact ⟨d, h, by omega, by omega, by omega, ok_up hB d h3⟩
theorem GL.mono (g : GL K H xs W N D B) (e : Ex H H') : GL K H' xs W N D B := by
  obtain ⟨d, h, r⟩ := g
  exact ⟨d, dya_mono e h, r⟩
theorem GL.up (g : GL K H xs W N D B) (hW : W ≤ W') (hN : N ≤ N') (hD : D ≤ D') (hB : B ≤ B') : GL K H xs W' N' D' B' := by
  obtain ⟨d, h, h1, hn, h2, h3⟩ := g
  exact ⟨d, h, by omega, by omega, by omega, oks_up hB d h3⟩
theorem GL.nil : GL K H [] W N D B := ⟨[], .nil, by simp [wts], by simp [nodess], by simp [PyData.depthAll], by simp [okDs]⟩
theorem GL.cons (a : G K H v W N D B) (b : GL K H xs W' N' D B) : GL K H (v :: xs) (W + W') (N + N') D B := by
  obtain ⟨d, h, h1, hn, h2, h3⟩ := a
  obtain ⟨ds, k, k1, kn, k2, k3⟩ := b
  exact ⟨d :: ds, .cons h k, by simp only [wts]; omega, by simp only [nodess]; omega, by simp only [PyData.depthAll]; omega, by simp only [okDs]; exact ⟨h3, k3⟩⟩
theorem dya_app : ∀ {xs ys : List V} {ds es : List PyData}, DyAll K H xs ds → DyAll K H ys es → DyAll K H (xs ++ ys) (ds ++ es)
  | _, _, _, _, .nil, h => h
  | _, _, _, _, .cons a b, h => .cons a (dya_app b h)
theorem wts_app : ∀ (ds es : List PyData), wts (ds ++ es) = wts ds + wts es
  | [], es => by simp [wts]
  | d :: ds, es => by simp only [List.cons_append, wts, wts_app ds es]; omega
theorem nds_app : ∀ (ds es : List PyData), nodess (ds ++ es) = nodess ds + nodess es
  | [], es => by simp [nodess]
  | d :: ds, es => by simp only [List.cons_append, nodess, nds_app ds es]; omega
theorem dep_app : ∀ (ds es : List PyData), PyData.depthAll (ds ++ es) = max (PyData.depthAll ds) (PyData.depthAll es)
  | [], es => by simp [PyData.depthAll]
  | d :: ds, es => by simp only [List.cons_append, PyData.depthAll, dep_app ds es]; omega
theorem okDs_app : ∀ (ds es : List PyData), okDs B (ds ++ es) ↔ okDs B ds ∧ okDs B es
  | [], es => by simp [okDs]
  | d :: ds, es => by simp only [List.cons_append, okDs, okDs_app ds es, and_assoc]
theorem GL.app (a : GL K H xs W N D B) (b : GL K H ys W' N' D B) : GL K H (xs ++ ys) (W + W') (N + N') D B := by
  obtain ⟨ds, h, h1, hn, h2, h3⟩ := a
  obtain ⟨es, k, k1, kn, k2, k3⟩ := b
  exact ⟨ds ++ es, dya_app h k, by rw [wts_app]; omega, by rw [nds_app]; omega, by rw [dep_app]; omega, (okDs_app ds es).mpr ⟨h3, k3⟩⟩
theorem dya_split : ∀ {xs ys : List V} {ds : List PyData}, DyAll K H (xs ++ ys) ds → ∃ a b, ds = a ++ b ∧ DyAll K H xs a ∧ DyAll K H ys b
  | [], ys, ds, h => ⟨[], ds, rfl, .nil, h⟩
  | x :: xs, ys, _, .cons h t => by
    obtain ⟨a, b, rfl, h1, h2⟩ := dya_split t
    exact ⟨_ :: a, b, rfl, .cons h h1, h2⟩
theorem GL.left (g : GL K H (xs ++ ys) W N D B) : GL K H xs W N D B := by
  obtain ⟨ds, h, h1, hn, h2, h3⟩ := g
  obtain ⟨a, b, rfl, k1, k2⟩ := dya_split h
  rw [wts_app] at h1
  rw [nds_app] at hn
  rw [dep_app] at h2
  exact ⟨a, k1, by omega, by omega, by omega, ((okDs_app a b).mp h3).1⟩
theorem GL.right (g : GL K H (xs ++ ys) W N D B) : GL K H ys W N D B := by
  obtain ⟨ds, h, h1, hn, h2, h3⟩ := g
  obtain ⟨a, b, rfl, k1, k2⟩ := dya_split h
  rw [wts_app] at h1
  rw [nds_app] at hn
  rw [dep_app] at h2
  exact ⟨b, k2, by omega, by omega, by omega, ((okDs_app a b).mp h3).2⟩
theorem GL.take (g : GL K H xs W N D B) (n : Nat) : GL K H (xs.take n) W N D B := GL.left (ys := xs.drop n) (by rw [List.take_append_drop]; exact g)
theorem GL.drop (g : GL K H xs W N D B) (n : Nat) : GL K H (xs.drop n) W N D B := GL.right (xs := xs.take n) (by rw [List.take_append_drop]; exact g)
theorem GL.get (g : GL K H xs W N D B) (h : v ∈ xs) : G K H v W N D B := by
  obtain ⟨a, b, rfl⟩ := List.append_of_mem h
  obtain ⟨ds, h, h1, hn, h2, h3⟩ := g.right (xs := a)
  cases h with
  | cons d r =>
    simp only [wts] at h1
    simp only [nodess] at hn
    simp only [PyData.depthAll] at h2
    simp only [okDs] at h3
    exact ⟨_, d, by omega, by omega, by omega, h3.1⟩
theorem GL.len (g : GL K H xs W N D B) : 10 * xs.length ≤ W := by
  obtain ⟨ds, h, h1, _⟩ := g
  have := len_wts ds
  have e : xs.length = ds.length := dxa_len (dya_dx h)
  omega
theorem G.tup {a : Addr} (hs : SqT K H a xs) (g : GL K H xs W N D B) : G K H (.ref a) (W + 10) (N + 1) (D + 1) B := by
  obtain ⟨ds, h, h1, hn, h2, h3⟩ := g
  exact ⟨.tuple ds, .tup hs h, by simp only [wt]; omega, by simp only [nodes]; omega, by simp only [PyData.depth]; omega, by simp only [okD]; exact h3⟩
theorem G.lst {a : Addr} (hs : H a = some (.lst xs)) (g : GL K H xs W N D B) : G K H (.ref a) (W + 10) (N + 1) (D + 1) B := by
  obtain ⟨ds, h, h1, hn, h2, h3⟩ := g
  exact ⟨.list ds, .lst hs h, by simp only [wt]; omega, by simp only [nodes]; omega, by simp only [PyData.depth]; omega, by simp only [okD]; exact h3⟩
theorem G.non : G K H .non 10 1 0 B := ⟨_, .non, by simp [wt], by simp [nodes], by simp [PyData.depth], by simp [okD]⟩
theorem G.bl (b : Bool) : G K H (.bl b) 10 1 0 B := ⟨_, .bl b, by simp [wt], by simp [nodes], by simp [PyData.depth], by simp [okD]⟩
theorem G.int {i : Int} (h : i.natAbs ≤ B) : G K H (.int i) 60 1 0 B := ⟨_, .int i, by simp [wt], by simp [nodes], by simp [PyData.depth], by simp only [okD]; exact h⟩
theorem G.str {z : Str} {n : Nat} (hn : 10 * z.length + 10 ≤ n) (h : asc z) : G K H (.str z) n 1 0 B := ⟨_, .str z, by simp only [wt]; exact hn, by simp [nodes], by simp [PyData.depth], by simp only [okD]; exact h⟩
theorem G.dct {a : Addr} (h : H a = some (.dK [])) : G K H (.ref a) 10 1 1 B := ⟨_, .dct h, by simp [wt, wtk], by simp [nodes], by simp [PyData.depth, PyData.depthKv], by simp [okD, okK]⟩
theorem G.dc1 {a : Addr} {z : Str} (h : H a = some (.dK [(Sum.inr z, v)])) (az : asc z) (g : G K H v W N D B) : G K H (.ref a) (10 * z.length + 10 + W + 10) (N + 1) (D + 1) B := by
  obtain ⟨d, hd, h1, hn, h2, h3⟩ := g
  refine ⟨_, .dc1 h hd, by simp only [wt, wtk]; omega, by simp only [nodes]; omega, by simp only [PyData.depth, PyData.depthKv]; omega, by simp only [okD, okK]; exact ⟨az, h3, trivial⟩⟩
end
/-! ### terms that give some datum while a hand draws -/
section
variable {K : PySem.W.Frag} {h l : Addr}
def EG (K : PySem.W.Frag) (h l : Addr) (W N D B : Nat) (te : TE) (σ : L2.St) (H : Hp) : Prop := ∀ H1, Kp h l H H1 → Hand H1 h l → ∀ Q : VK, (∀ v H2, Kp h l H1 H2 → Hand H2 h l → G K (aside H2 [h, l]) v W N D B → Q v H2) → te σ H1 Q
def GT (K : PySem.W.Frag) (h l : Addr) (W N D B : Nat) (te : TE) (σ : L2.St) (H : Hp) : Prop := ∀ H1, Kp h l H H1 → Hand H1 h l → ∀ Q : VK, (∀ p xs H2, Kp h l H1 H2 → Hand H2 h l → SqT K (aside H2 [h, l]) p xs → GL K (aside H2 [h, l]) xs W N D B → Q (.ref p) H2) → te σ H1 Q
variable {σ : L2.St} {H : Hp} {te tb : TE} {ta : TA} {W N D B W' N' D' B' n m : Nat}
theorem EG.up (g : EG K h l W N D B te σ H) (hW : W ≤ W') (hN : N ≤ N') (hD : D ≤ D') (hB : B ≤ B') : EG K h l W' N' D' B' te σ H := fun H1 k A Q q => g H1 k A Q fun v H2 k2 A2 g2 => q v H2 k2 A2 (g2.up hW hN hD hB)
theorem GT.up (g : GT K h l W N D B te σ H) (hW : W ≤ W') (hN : N ≤ N') (hD : D ≤ D') (hB : B ≤ B') : GT K h l W' N' D' B' te σ H := fun H1 k A Q q => g H1 k A Q fun p xs H2 k2 A2 s g2 => q p xs H2 k2 A2 s (g2.up hW hN hD hB)
end
end NL
/-! truths among numbers: True + 1, True - 1, 0 - True -/
namespace NL
open PySem PySem.Spec PyProof.Rows L2 Evl
def numV : V → Option Int
  | .int i => some i
  | .bl b => some (if b = true then 1 else 0)
  | _ => none
/-! ### steps with tuples, in the heap beside the hand -/
section
variable {K : PySem.W.Frag} {h l a b : Addr} {xs ys : List V} {H : Hp} {Q : VK}
theorem cut_from {i : Nat} : cutV xs (some (i : Int)) none = xs.drop i := by
  unfold cutV
  rw [HT.sIx_none, HT.sIx_nat]
  by_cases hi : i ≤ xs.length
  · rw [Nat.min_eq_left hi, List.take_of_length_le (by rw [List.length_drop]; omega)]
  · rw [Nat.min_eq_right (by omega), List.drop_of_length_le (Nat.le_refl _), List.drop_of_length_le (by omega)]
    simp
end
/-! ### a place in a datum -/
/-- what is led to -/
def there : PyData → List Nat → PyData
  | d, [] => d
  | .tuple ds, i :: is => there (ds.getD i .none) is
  | d, _ :: _ => d
theorem dya_get {K : PySem.W.Frag} {H : Hp} : ∀ {vs : List V} {ds : List PyData} {i : Nat} {v : V}, DyAll K H vs ds → vs[i]? = some v → ∃ d, ds[i]? = some d ∧ Dy K H v d
  | _, _, _, _, .nil, e => by simp at e
  | _, _, 0, _, .cons r _, e => by simp at e; subst e; exact ⟨_, rfl, r⟩
  | _, _, i + 1, v, .cons _ t, e => by
    obtain ⟨d, h1, h2⟩ := dya_get (i := i) (v := v) t (by simpa using e)
    exact ⟨d, by simpa using h1, h2⟩
theorem dya_len {K : PySem.W.Frag} {H : Hp} {vs : List V} {ds : List PyData} (h : DyAll K H vs ds) : vs.length = ds.length := dxa_len (dya_dx h)
theorem hu_e {k : Nat} {A : Around} (hr : Room k A) : A.units < cLine := by
  have := hr.un
  omega
theorem hu_e64 {k : Nat} {A : Around} (hr : Room k A) : A.units + 64 < cLine := by
  have := hr.un
  omega
end NL
/-! rows of a plan with the groups' bounds -/
namespace NL
open PySem L2 Evl
/-- name, a group's bound, the groups around it -/
abbrev Rb := Str × Option Int × List Str
def obV : Option Int → V
  | none => .non
  | some b => .int b
mutual
def Tr.rows : Tr → List Str → List Rb
  | .hand n, p => [(n, none, p)]
  | .grp n b ms, p => (n, some b, p) :: rowss ms (n :: p)
def rowss : List Tr → List Str → List Rb
  | [], _ => []
  | t :: ts, p => t.rows p ++ rowss ts p
end
def plainR (r : Rb) : Rw := (r.1, r.2.1.isSome, r.2.2)
mutual
theorem rows_told : ∀ (t : Tr) (p : List Str), (t.rows p).map plainR = t.told p
  | .hand n, p => by simp [Tr.rows, Tr.told, plainR]
  | .grp n b ms, p => by simp [Tr.rows, Tr.told, plainR, rowss_told ms]
theorem rowss_told : ∀ (ts : List Tr) (p : List Str), (rowss ts p).map plainR = tolds ts p
  | [], p => by simp [rowss, tolds]
  | t :: ts, p => by simp [rowss, tolds, rows_told t, rowss_told ts]
end
theorem rows_len (t : Tr) (p : List Str) : (t.rows p).length = t.size := by rw [← told_len t p, ← rows_told, List.length_map]
theorem rowss_len (ts : List Tr) (p : List Str) : (rowss ts p).length = sizes ts := by rw [← tolds_len ts p, ← rowss_told, List.length_map]
theorem rowss_take : ∀ (ts : List Tr) (i : Nat) (t : Tr) (p : List Str), ts[i]? = some t → rowss (ts.take (i + 1)) p = rowss (ts.take i) p ++ t.rows p
  | [], _, _, _, h => by simp at h
  | u :: ts, 0, t, p, h => by
    simp at h
    subst h
    simp [rowss]
  | u :: ts, i + 1, t, p, h => by
    have ih := rowss_take ts i t p (by simpa using h)
    simp only [List.take_succ_cons, rowss]
    rw [ih, List.append_assoc]
/-- a row with its bound, in the heap -/
def RowB (H : Hp) (v : V) (r : Rb) : Prop := ∃ a pa, v = .ref a ∧ H a = some (.tup [.str r.1, obV r.2.1, .ref pa]) ∧ H pa = some (.tup (r.2.2.map V.str))
inductive RowsB (H : Hp) : List V → List Rb → Prop
  | nil : RowsB H [] []
  | cons {v : V} {vs : List V} {r : Rb} {rs : List Rb} : RowB H v r → RowsB H vs rs → RowsB H (v :: vs) (r :: rs)
theorem RowB.tk {H H' : Hp} {v : V} {r : Rb} (k : TK H H') (h : RowB H v r) : RowB H' v r := by
  obtain ⟨a, pa, e, h1, h2⟩ := h
  exact ⟨a, pa, e, k _ _ h1, k _ _ h2⟩
theorem RowsB.tk {H H' : Hp} (k : TK H H') : ∀ {vs : List V} {rs : List Rb}, RowsB H vs rs → RowsB H' vs rs
  | _, _, .nil => .nil
  | _, _, .cons a b => .cons (a.tk k) (b.tk k)
theorem RowsB.app {H : Hp} : ∀ {vs us : List V} {rs qs : List Rb}, RowsB H vs rs → RowsB H us qs → RowsB H (vs ++ us) (rs ++ qs)
  | _, _, _, _, .nil, h => h
  | _, _, _, _, .cons a b, h => .cons a (b.app h)
theorem RowsB.one {H : Hp} {v : V} {r : Rb} (h : RowB H v r) : RowsB H [v] [r] := .cons h .nil
theorem RowsB.len {H : Hp} : ∀ {vs : List V} {rs : List Rb}, RowsB H vs rs → vs.length = rs.length
  | _, _, .nil => rfl
  | _, _, .cons _ t => by rw [List.length_cons, List.length_cons, t.len]
theorem RowsB.get {H : Hp} : ∀ {vs : List V} {rs : List Rb} {i : Nat} {v : V}, RowsB H vs rs → vs[i]? = some v → ∃ r, rs[i]? = some r ∧ RowB H v r
  | _, _, _, _, .nil, e => by simp at e
  | _, _, 0, _, .cons r _, e => by simp at e; subst e; exact ⟨_, rfl, r⟩
  | _, _, i + 1, v, .cons _ t, e => by
    obtain ⟨d, h1, h2⟩ := t.get (i := i) (v := v) (by simpa using e)
    exact ⟨d, by simpa using h1, h2⟩
def handsOf (t : Tr) : List Str := ((t.told []).filter fun r => !r.2.1).map (·.1)
def groupsOf (t : Tr) : List Str := ((t.told []).filter fun r => r.2.1).map (·.1)
theorem hands_rows (t : Tr) : handsOf t = ((t.rows []).filter fun r => !r.2.1.isSome).map (·.1) := by
  unfold handsOf
  rw [← rows_told, List.filter_map, List.map_map]
  rfl
end NL
/-! trees: groups in them, paths, names told for others -/
namespace NL
open PySem L2 Evl
mutual
theorem told_under : ∀ (t : Tr) (q p : List Str), t.told (q ++ p) = (t.told q).map fun r => (r.1, r.2.1, r.2.2 ++ p)
  | .hand n, q, p => by simp [Tr.told]
  | .grp n b ms, q, p => by
    simp only [Tr.told, List.map_cons]
    rw [show n :: (q ++ p) = (n :: q) ++ p from rfl, tolds_under ms (n :: q) p]
theorem tolds_under : ∀ (ts : List Tr) (q p : List Str), tolds ts (q ++ p) = (tolds ts q).map fun r => (r.1, r.2.1, r.2.2 ++ p)
  | [], q, p => by simp [tolds]
  | t :: ts, q, p => by
    simp only [tolds, List.map_append]
    rw [told_under t, tolds_under ts]
end
theorem hands_in (t : Tr) : ∀ x ∈ handsOf t, x ∈ t.nms := fun x hx => by
  unfold handsOf at hx
  obtain ⟨r, h1, rfl⟩ := List.mem_map.mp hx
  rw [← told_nms t []]
  exact List.mem_map.mpr ⟨r, (List.mem_filter.mp h1).1, rfl⟩
theorem part_len : ∀ rs : List Rw, ((rs.filter fun r => !r.2.1).map (·.1)).length + ((rs.filter fun r => r.2.1).map (·.1)).length = rs.length
  | [] => rfl
  | r :: rs => by
    have ih := part_len rs
    simp only [List.length_map] at ih ⊢
    cases hr : r.2.1 with
    | false => simp only [List.filter_cons, hr, Bool.not_false, if_true, Bool.false_eq_true, if_false, List.length_cons]; omega
    | true => simp only [List.filter_cons, hr, Bool.not_true, if_true, Bool.false_eq_true, if_false, List.length_cons]; omega
theorem names_len (t : Tr) : (handsOf t ++ groupsOf t).length = t.size := by
  rw [List.length_append]
  unfold handsOf groupsOf
  rw [part_len, told_len]
/-! ### each row's path ends at the whole -/
theorem tolds_end (ts : List Tr) (p : List Str) : ∀ r ∈ tolds ts p, ∃ q, r.2.2 = q ++ p := fun r h => by
  have e := tolds_under ts [] p
  rw [List.nil_append] at e
  rw [e] at h
  obtain ⟨s, _, rfl⟩ := List.mem_map.mp h
  exact ⟨_, rfl⟩
/-! ### names told for others -/
/-! ### a tree is a plan where its names are unlike -/
theorem alpha_in (c : Nat) : c ∈ ("abcdefghijklmnopqrstuvwxyz" : Str).cps.toList ↔ 97 ≤ c ∧ c ≤ 122 := by
  have e : ("abcdefghijklmnopqrstuvwxyz" : Str).cps.toList = List.range' 97 26 := by decide +kernel
  rw [e, List.mem_range'_1]
  omega
theorem ok_nameB {s : Str} (h : nameOk s) : nameB s = true := by
  unfold nameB
  simp only [Bool.and_eq_true, decide_eq_true_eq, List.all_eq_true]
  exact ⟨⟨h.1, h.2.1⟩, fun c hc => (alpha_in c).mpr (h.2.2 c hc)⟩
mutual
theorem all_tree : ∀ t : Tr, t.ok → (∀ n ∈ t.nms, nameOk n) → allM t.dat = some t.nms
  | .hand n, _, h => by
    simp only [Tr.dat, Tr.nms, allM]
    rw [if_pos (ok_nameB (h n (by simp [Tr.nms])))]
  | .grp n b ms, ho, h => by
    simp only [Tr.ok] at ho
    have ih := alls_tree ms ho.2.2.2 (fun x hx => h x (by simp [Tr.nms, hx]))
    have hne : dats ms ≠ [] := by
      cases ms with
      | nil => exact absurd rfl ho.2.2.1
      | cons m ms => simp [dats]
    simp only [Tr.dat, Tr.nms, allM]
    rw [if_pos ⟨ho.1, hne, ok_nameB (h n (by simp [Tr.nms]))⟩, ih]
theorem alls_tree : ∀ ts : List Tr, oks ts → (∀ n ∈ nmss ts, nameOk n) → allMs (dats ts) = some (nmss ts)
  | [], _, _ => by simp [dats, allMs, nmss]
  | t :: ts, ho, h => by
    simp only [oks] at ho
    have h1 := all_tree t ho.1 (fun x hx => h x (by simp [nmss, hx]))
    have h2 := alls_tree ts ho.2 (fun x hx => h x (by simp [nmss, hx]))
    simp only [dats, allMs, nmss, h1, h2]
end
theorem plan_tree {n : Str} {b : Int} {ms : List Tr} (ho : (Tr.grp n b ms).ok) (h : ∀ x ∈ (Tr.grp n b ms).nms, nameOk x) : planB (Tr.grp n b ms).dat = decide (Tr.grp n b ms).nms.Nodup := by
  have e := all_tree _ ho h
  rw [plan_unique]
  have e2 : allG (Tr.grp n b ms).dat = some (Tr.grp n b ms).nms := by
    rw [← e]
    simp only [Tr.dat]
    rfl
  rw [e2]
  rfl
end NL
namespace NL
open PySem L2 Evl
/-! ### turns, and even plans, as trees -/
mutual
def Tr.hn : Tr → Nat
  | .hand _ => 1
  | .grp _ _ ms => hns ms
def hns : List Tr → Nat
  | [] => 0
  | t :: ts => t.hn + hns ts
end
mutual
def Tr.turn : Tr → Int
  | .hand _ => 1
  | .grp _ b ms => if hns ms = 1 then 1 else b * maxs ms
def maxs : List Tr → Int
  | [] => 0
  | t :: ts => max t.turn (maxs ts)
end
theorem maxs_ge : ∀ {ts : List Tr}, ∀ t ∈ ts, t.turn ≤ maxs ts
  | u :: ts, t, h => by
    simp only [maxs]
    rcases List.mem_cons.mp h with rfl | h
    · omega
    · have := maxs_ge t h
      omega
theorem max_le {ts : List Tr} : ∀ y ∈ ts.map Tr.turn, y ≤ maxs ts := fun y hy => by
  obtain ⟨t, ht, rfl⟩ := List.mem_map.mp hy
  exact maxs_ge t ht
end NL
/-! terms that tell some tuple of known things -/
namespace NL
open PySem L2 Evl
def EvS (K : PySem.W.Frag) (te : TE) (σ : L2.St) (H : Hp) (xs : List V) : Prop := ∀ H1, Ex H H1 → ∀ Q : VK, (∀ p H2, Ex H1 H2 → SqT K H2 p xs → Q (.ref p) H2) → te σ H1 Q
section
variable {K : PySem.W.Frag} {σ : L2.St} {H H' : Hp} {te ta tb : TE} {xs ys : List V}
theorem EvS.mono (e : Ex H H') (h : EvS K te σ H xs) : EvS K te σ H' xs := fun H1 a Q q => h H1 (e.trans a) Q q
end
/-! ### tuples of names against one another -/
theorem eqv_strs : ∀ xs ys : List Str, PyData.eqvAll (xs.map PyData.str) (ys.map PyData.str) = decide (xs = ys)
  | [], [] => by simp [PyData.eqvAll]
  | [], y :: ys => by simp [PyData.eqvAll]
  | x :: xs, [] => by simp [PyData.eqvAll]
  | x :: xs, y :: ys => by
    simp only [List.map_cons, PyData.eqvAll, PyData.eqv, eqv_strs xs ys]
    rw [Bool.eq_iff_iff]
    simp
end NL
/-! plans as data that weigh so much -/
namespace NL
open PySem L2 Evl
theorem name_asc {n : Str} (h : nameOk n) : asc n := fun c hc => by
  have := h.2.2 c hc
  omega
mutual
theorem dat_wt : ∀ (t : Tr), (∀ n ∈ t.nms, nameOk n) → t.ok → wt t.dat ≤ 170 * t.size ∧ nodes t.dat ≤ 4 * t.size ∧ t.dat.depth ≤ 2 * t.deep ∧ okD (2 ^ 30) t.dat
  | .hand n, h, _ => by
    have hn := h n (by simp [Tr.nms])
    have := hn.2.1
    simp only [Tr.dat, Tr.deep, Tr.size, wt, nodes, PyData.depth, okD]
    exact ⟨by omega, by omega, by omega, name_asc hn⟩
  | .grp n b ms, h, ho => by
    have hn := h n (by simp [Tr.nms])
    have := hn.2.1
    simp only [Tr.ok] at ho
    obtain ⟨b1, b2, _, ho⟩ := ho
    obtain ⟨i1, i2, i3, i4⟩ := dats_wt ms (fun m hm => h m (by simp [Tr.nms, hm])) ho
    simp only [Tr.dat, Tr.deep, Tr.size, wt, wts, nodes, nodess, PyData.depth, PyData.depthAll, okD, okDs]
    exact ⟨by omega, by omega, by omega, name_asc hn, by omega, i4, trivial⟩
theorem dats_wt : ∀ (ts : List Tr), (∀ n ∈ nmss ts, nameOk n) → oks ts → wts (dats ts) ≤ 170 * sizes ts ∧ nodess (dats ts) ≤ 4 * sizes ts ∧ PyData.depthAll (dats ts) ≤ 2 * deeps ts ∧ okDs (2 ^ 30) (dats ts)
  | [], _, _ => by simp [dats, wts, nodess, PyData.depthAll, okDs]
  | t :: ts, h, ho => by
    simp only [oks] at ho
    obtain ⟨i1, i2, i3, i4⟩ := dat_wt t (fun m hm => h m (by simp [nmss, hm])) ho.1
    obtain ⟨j1, j2, j3, j4⟩ := dats_wt ts (fun m hm => h m (by simp [nmss, hm])) ho.2
    simp only [dats, wts, nodess, PyData.depthAll, okDs, sizes, deeps]
    exact ⟨by omega, by omega, by omega, i4, j4⟩
end
theorem tree_dx {K : PySem.W.Frag} {H : Hp} {v : V} {t : Tr} (h : TrV H v t) : Dx K H v t.dat := dx_dp _ _ (trv_dp t v h)
theorem tree_fits {t : Tr} (h : ∀ n ∈ t.nms, nameOk n) (ho : t.ok) (hs : t.size ≤ 200) (hd : t.deep ≤ 12) : shorts t.dat ∧ t.dat.depth ≤ 30 ∧ nodes t.dat ≤ 4000 := by
  obtain ⟨h1, h2, h3, h4⟩ := dat_wt t h ho
  exact ⟨shorts_wt (W := 10000000) (by decide) _ (by omega), by omega, by omega⟩
end NL
/-! terms that make some datum and change nothing that is there; some addresses set aside -/
namespace NL
open PySem PySem.Spec PyProof.Rows L2 Evl
def Sin (S : List Addr) (H : Hp) : Prop := ∀ a ∈ S, H a ≠ none
theorem Sin.ex {S : List Addr} {H H' : Hp} (s : Sin S H) (e : Ex H H') : Sin S H' := fun a ha z => by
  cases h : H a with
  | none => exact s a ha h
  | some o =>
    rw [e a o h] at z
    cases z
theorem Sin.off {S : List Addr} {H : Hp} {p : Addr} (s : Sin S H) (hp : H p = none) : p ∉ S := fun h => s p h hp
theorem Sin.cons {S : List Addr} {H H' : Hp} {p : Addr} {o : HO} (s : Sin S H) (e : Ex H H') (hp : H' p = some o) : Sin (p :: S) H' := fun a ha => by
  rcases List.mem_cons.mp ha with rfl | ha
  · rw [hp]
    exact fun z => by cases z
  · exact s.ex e a ha
section
variable {K : PySem.W.Frag} {S : List Addr} {σ : L2.St} {H H' : Hp} {te tb : TE} {ta : TA} {W N D B W' N' D' B' n m : Nat}
def PV (K : PySem.W.Frag) (S : List Addr) (W N D B : Nat) (te : TE) (σ : L2.St) (H : Hp) : Prop := ∀ H1, Ex H H1 → ∀ Q : VK, (∀ v H2, Ex H1 H2 → G K (aside H2 S) v W N D B → Q v H2) → te σ H1 Q
def PTp (K : PySem.W.Frag) (S : List Addr) (W N D B : Nat) (te : TE) (σ : L2.St) (H : Hp) : Prop := ∀ H1, Ex H H1 → ∀ Q : VK, (∀ p xs H2, Ex H1 H2 → SqT K (aside H2 S) p xs → GL K (aside H2 S) xs W N D B → Q (.ref p) H2) → te σ H1 Q
/-- a list of at most n of them -/
def PLs (K : PySem.W.Frag) (S : List Addr) (n W N D B : Nat) (te : TE) (σ : L2.St) (H : Hp) : Prop := ∀ H1, Ex H H1 → ∀ Q : VK, (∀ p xs H2, Ex H1 H2 → H2 p = some (.lst xs) → p ∉ S → xs.length ≤ n → (∀ v ∈ xs, G K (aside H2 (p :: S)) v W N D B) → Q (.ref p) H2) → te σ H1 Q
theorem PV.mono (g : PV K S W N D B te σ H) (e : Ex H H') : PV K S W N D B te σ H' := fun H1 e1 Q q => g H1 (e.trans e1) Q q
theorem PV.up (g : PV K S W N D B te σ H) (hW : W ≤ W') (hN : N ≤ N') (hD : D ≤ D') (hB : B ≤ B') : PV K S W' N' D' B' te σ H := fun H1 e Q q => g H1 e Q fun v H2 e2 g2 => q v H2 e2 (g2.up hW hN hD hB)
theorem PTp.up (g : PTp K S W N D B te σ H) (hW : W ≤ W') (hN : N ≤ N') (hD : D ≤ D') (hB : B ≤ B') : PTp K S W' N' D' B' te σ H := fun H1 e Q q => g H1 e Q fun p xs H2 e2 s g2 => q p xs H2 e2 s (g2.up hW hN hD hB)
theorem PLs.up (g : PLs K S n W N D B te σ H) (hn : n ≤ m) (hW : W ≤ W') (hN : N ≤ N') (hD : D ≤ D') (hB : B ≤ B') : PLs K S m W' N' D' B' te σ H := fun H1 e Q q => g H1 e Q fun p xs H2 e2 h off l g2 => q p xs H2 e2 h off (by omega) fun v hv => (g2 v hv).up hW hN hD hB
end
end NL
/-! the box that draws: a list of three numbers; a box of names: a dict of three -/
namespace NL
open PySem L2 Evl
structure BxAt (H : Hp) (h : Addr) (n m c : Int) (C : Nat) : Prop where
  hh : H h = some (.lst [.int n, .int m, .int c])
  n0 : 0 ≤ n
  m0 : 0 ≤ m
  m1 : m < 2 ^ 100
  c0 : 0 ≤ c
  c1 : c ≤ C
def Bx (H : Hp) (h : Addr) (C : Nat) : Prop := ∃ n m c, BxAt H h n m c C
theorem BxAt.ex {H H' : Hp} {h : Addr} {n m c : Int} {C : Nat} (A : BxAt H h n m c C) (e : Ex H H') : BxAt H' h n m c C := ⟨e _ _ A.hh, A.n0, A.m0, A.m1, A.c0, A.c1⟩
theorem Bx.ex {H H' : Hp} {h : Addr} {C : Nat} (A : Bx H h C) (e : Ex H H') : Bx H' h C := by
  obtain ⟨n, m, c, A⟩ := A
  exact ⟨n, m, c, A.ex e⟩
theorem Bx.up {H : Hp} {h : Addr} {C C' : Nat} (A : Bx H h C) (hC : C ≤ C') : Bx H h C' := by
  obtain ⟨n, m, c, A⟩ := A
  exact ⟨n, m, c, A.hh, A.n0, A.m0, A.m1, A.c0, by have := A.c1; omega⟩
theorem Bx.fresh {H : Hp} {h p : Addr} {C : Nat} (A : Bx H h C) (n : H p = none) : p ≠ h := by
  obtain ⟨_, _, _, A⟩ := A
  intro e
  subst e
  rw [A.hh] at n
  cases n
theorem Bx.new {H : Hp} {h p : Addr} {o : HO} {C : Nat} (A : Bx H h C) (n : H p = none) : Bx (upd H p o) h C := A.ex (Ex.new n)
/-! ### names by a dict: which is next, the first, how far from one to the next -/
def NB (H : Hp) (bx : Addr) (k : Nat) (f b : Int) : Prop := H bx = some (.dK [(Sum.inr (Str.ofString "next"), .int (k : Int)), (Sum.inr (Str.ofString "first"), .int f), (Sum.inr (Str.ofString "by"), .int b)])
def nmL (f b : Int) (j : Nat) : Str := ⟨#[97 + ((f + b * (j : Int)) % 26).toNat]⟩
theorem nmL_ok (f b : Int) (j : Nat) : nameOk (nmL f b j) := by
  refine ⟨?_, ?_, fun c hc => ?_⟩
  · show 1 ≤ 1
    decide
  · show 1 ≤ 8
    decide
  · have : c = 97 + ((f + b * (j : Int)) % 26).toNat := by simpa [nmL] using hc
    omega
theorem NB.ex {H H' : Hp} {bx : Addr} {k : Nat} {f b : Int} (n : NB H bx k f b) (e : Ex H H') : NB H' bx k f b := e _ _ n
theorem NB.kp {H H' : Hp} {bx h : Addr} {k : Nat} {f b : Int} (n : NB H bx k f b) (ne : bx ≠ h) (e : Kp h h H H') : NB H' bx k f b := e _ _ ne ne n
theorem Bx.kp {H H' : Hp} {bx h : Addr} {C : Nat} (A : Bx H h C) (ne : h ≠ bx) (e : Kp bx bx H H') : Bx H' h C := by
  obtain ⟨n, m, c, A⟩ := A
  exact ⟨n, m, c, e _ _ ne ne A.hh, A.n0, A.m0, A.m1, A.c0, A.c1⟩
theorem Bx.ne {H : Hp} {h bx : Addr} {C k : Nat} {f b : Int} (A : Bx H h C) (n : NB H bx k f b) : h ≠ bx := fun z => by
  obtain ⟨_, _, _, A⟩ := A
  subst z
  have := A.hh.symm.trans n
  cases this
theorem NB.fresh {H : Hp} {bx p : Addr} {k : Nat} {f b : Int} (n : NB H bx k f b) (hp : H p = none) : p ≠ bx := fun z => by
  subst z
  have := n.symm.trans hp
  cases this
/-! ### names of groups -/
mutual
def Tr.gn : Tr → List Str
  | .hand _ => []
  | .grp n _ ms => n :: gns ms
def gns : List Tr → List Str
  | [] => []
  | t :: ts => t.gn ++ gns ts
end
theorem mem_gns : ∀ {ts : List Tr} {x : Str}, x ∈ gns ts → ∃ t ∈ ts, x ∈ t.gn
  | t :: ts, x, h => by
    simp only [gns] at h
    rcases List.mem_append.mp h with h | h
    · exact ⟨t, List.mem_cons_self .., h⟩
    · obtain ⟨u, hu, hx⟩ := mem_gns h
      exact ⟨u, List.mem_cons_of_mem _ hu, hx⟩
theorem mem_nmss : ∀ {ts : List Tr} {x : Str}, x ∈ nmss ts → ∃ t ∈ ts, x ∈ t.nms
  | t :: ts, x, h => by
    simp only [nmss] at h
    rcases List.mem_append.mp h with h | h
    · exact ⟨t, List.mem_cons_self .., h⟩
    · obtain ⟨u, hu, hx⟩ := mem_nmss h
      exact ⟨u, List.mem_cons_of_mem _ hu, hx⟩
theorem oks_of : ∀ {ts : List Tr}, (∀ t ∈ ts, t.ok) → oks ts
  | [], _ => trivial
  | t :: ts, h => ⟨h t (List.mem_cons_self ..), oks_of fun u hu => h u (List.mem_cons_of_mem _ hu)⟩
theorem deeps_of {d : Nat} : ∀ {ts : List Tr}, (∀ t ∈ ts, t.deep ≤ d) → deeps ts ≤ d
  | [], _ => Nat.zero_le _
  | t :: ts, h => by
    simp only [deeps]
    exact Nat.max_le.mpr ⟨h t (List.mem_cons_self ..), deeps_of fun u hu => h u (List.mem_cons_of_mem _ hu)⟩
/-- a tree whose groups have names between these -/
structure GM (f b : Int) (lo hi d : Nat) (t : Tr) : Prop where
  ok : t.ok
  dp : t.deep ≤ d
  nm : ∀ x ∈ t.nms, nameOk x
  gn : ∀ x ∈ t.gn, ∃ j, lo < j ∧ j ≤ hi ∧ x = nmL f b j
theorem GM.up {f b : Int} {lo hi lo' hi' d d' : Nat} {t : Tr} (g : GM f b lo hi d t) (h1 : lo' ≤ lo) (h2 : hi ≤ hi') (h3 : d ≤ d') : GM f b lo' hi' d' t := ⟨g.ok, Nat.le_trans g.dp h3, g.nm, fun x hx => by
  obtain ⟨j, a, c, e⟩ := g.gn x hx
  exact ⟨j, by omega, by omega, e⟩⟩
theorem GM.hand {f b : Int} {lo hi d : Nat} {x : Str} (h : nameOk x) : GM f b lo hi d (.hand x) := ⟨trivial, Nat.zero_le _, fun y hy => by
  simp only [Tr.nms] at hy
  rw [List.mem_singleton.mp hy]
  exact h, fun y hy => by cases hy⟩
def GMs (f b : Int) (lo hi d : Nat) (ts : List Tr) : Prop := (∀ t ∈ ts, GM f b lo hi d t) ∧ sizes ts + lo ≤ hi
theorem GMs.grp {f b : Int} {lo lo' hi d j : Nat} {ms : List Tr} {c : Int} (g : GMs f b lo hi d ms) (hn : ms ≠ []) (c1 : 1 ≤ c) (c2 : c ≤ 999999999) (j1 : lo' < j) (j2 : j ≤ hi) (hl : lo' ≤ lo) : GM f b lo' hi (d + 1) (.grp (nmL f b j) c ms) where
  ok := ⟨c1, c2, hn, oks_of fun t ht => (g.1 t ht).ok⟩
  dp := by
    simp only [Tr.deep]
    have := deeps_of fun t ht => (g.1 t ht).dp
    omega
  nm := fun x hx => by
    simp only [Tr.nms] at hx
    rcases List.mem_cons.mp hx with rfl | hx
    · exact nmL_ok f b j
    · obtain ⟨t, ht, hx⟩ := mem_nmss hx
      exact (g.1 t ht).nm x hx
  gn := fun x hx => by
    simp only [Tr.gn] at hx
    rcases List.mem_cons.mp hx with rfl | hx
    · exact ⟨j, j1, j2, rfl⟩
    · obtain ⟨t, ht, hx⟩ := mem_gns hx
      obtain ⟨i, a1, a2, a3⟩ := (g.1 t ht).gn x hx
      exact ⟨i, by omega, a2, a3⟩
theorem GMs.ins {f b : Int} {lo mid hi d : Nat} {a c : List Tr} {t : Tr} (g : GMs f b lo mid d (a ++ c)) (gt : GM f b mid hi d t) (hs : t.size + mid ≤ hi) (hm : lo ≤ mid) : GMs f b lo hi d (a ++ [t] ++ c) := by
  have hs2 := g.2
  rw [sizes_app] at hs2
  refine ⟨fun u hu => ?_, ?_⟩
  · have h : u ∈ a ∨ u = t ∨ u ∈ c := by
      rcases List.mem_append.mp hu with hu | hu
      · rcases List.mem_append.mp hu with hu | hu
        · exact .inl hu
        · exact .inr (.inl (List.mem_singleton.mp hu))
      · exact .inr (.inr hu)
    rcases h with h | rfl | h
    · exact (g.1 u (List.mem_append_left _ h)).up (Nat.le_refl _) (by omega) (Nat.le_refl _)
    · exact gt.up hm (Nat.le_refl _) (Nat.le_refl _)
    · exact (g.1 u (List.mem_append_right _ h)).up (Nat.le_refl _) (by omega) (Nat.le_refl _)
  · rw [sizes_app, sizes_app]
    simp only [sizes]
    omega
theorem GMs.up {f b : Int} {lo hi hi' d d' : Nat} {ts : List Tr} (g : GMs f b lo hi d ts) (h2 : hi ≤ hi') (h3 : d ≤ d') : GMs f b lo hi' d' ts := ⟨fun t ht => (g.1 t ht).up (Nat.le_refl _) h2 h3, Nat.le_trans g.2 h2⟩
theorem GMs.app {f b : Int} {lo mid hi d : Nat} {a : List Tr} {t : Tr} (g : GMs f b lo mid d a) (gt : GM f b mid hi d t) (hs : t.size + mid ≤ hi) (hm : lo ≤ mid) : GMs f b lo hi d (a ++ [t]) := by
  have := GMs.ins (a := a) (c := []) (by rw [List.append_nil]; exact g) gt hs hm
  rw [List.append_nil] at this
  exact this
end NL
/-! data of tuples alone: they stay whatever becomes of lists -/
namespace NL
open PySem L2 Evl
mutual
def tupOnly : PyData → Bool
  | .none => true
  | .bool _ => true
  | .int _ => true
  | .str _ => true
  | .tuple ds => tupOnlys ds
  | _ => false
def tupOnlys : List PyData → Bool
  | [] => true
  | d :: ds => tupOnly d && tupOnlys ds
end
def ST (K : PySem.W.Frag) (H H' : Hp) : Prop := ∀ a xs, SqT K H a xs → SqT K H' a xs
theorem ST.refl {K : PySem.W.Frag} (H : Hp) : ST K H H := fun _ _ h => h
theorem ST.trans {K : PySem.W.Frag} {H H1 H2 : Hp} (a : ST K H H1) (b : ST K H1 H2) : ST K H H2 := fun x y h => b x y (a x y h)
theorem ST.ex {K : PySem.W.Frag} {H H' : Hp} (e : Ex H H') : ST K H H' := fun _ _ h => ex_t e h
theorem ST.lst {K : PySem.W.Frag} {H : Hp} {p : Addr} {ys : List V} {o : HO} (h : H p = some (.lst ys)) : ST K H (upd H p o) := fun a xs s => by
  rcases s with (z | ⟨ob, z⟩) | z
  · refine Or.inl (Or.inl ?_)
    rw [upd_ne (fun y => by subst y; rw [h] at z; cases z)]
    exact z
  · refine Or.inl (Or.inr ⟨ob, ?_⟩)
    rw [upd_ne (fun y => by subst y; rw [h] at z; cases z)]
    exact z
  · exact Or.inr z
mutual
theorem dy_st {K : PySem.W.Frag} {H H' : Hp} (s : ST K H H') : ∀ (d : PyData) (v : V), tupOnly d = true → Dy K H v d → Dy K H' v d
  | .none, _, _, h => by cases h; exact .non
  | .bool b, _, _, h => by cases h; exact .bl b
  | .int i, _, _, h => by cases h; exact .int i
  | .str x, _, _, h => by cases h; exact .str x
  | .tuple ds, _, t, h => by
    cases h with
    | tup hs ha =>
      simp only [tupOnly] at t
      exact .tup (s _ _ hs) (dya_st s ds _ t ha)
  | .list ds, _, t, _ => by simp [tupOnly] at t
  | .dict ds, _, t, _ => by simp [tupOnly] at t
theorem dya_st {K : PySem.W.Frag} {H H' : Hp} (s : ST K H H') : ∀ (ds : List PyData) (vs : List V), tupOnlys ds = true → DyAll K H vs ds → DyAll K H' vs ds
  | [], _, _, h => by cases h; exact .nil
  | d :: ds, _, t, h => by
    cases h with
    | cons a b =>
      simp only [tupOnlys, Bool.and_eq_true] at t
      exact .cons (dy_st s d _ t.1 a) (dya_st s ds _ t.2 b)
end
/-- a datum of tuples alone, small -/
structure TD (K : PySem.W.Frag) (H : Hp) (W N D : Nat) (v : V) (d : PyData) : Prop where
  dy : Dy K H v d
  to : tupOnly d = true
  wt : wt d ≤ W
  nd : nodes d ≤ N
  dp : d.depth ≤ D
  ok : okD 1000000000 d
theorem TD.st {K : PySem.W.Frag} {H H' : Hp} {W N D : Nat} {v : V} {d : PyData} (t : TD K H W N D v d) (s : ST K H H') : TD K H' W N D v d := ⟨dy_st s d v t.to t.dy, t.to, t.wt, t.nd, t.dp, t.ok⟩
theorem TD.up {K : PySem.W.Frag} {H : Hp} {W N D W' N' D' : Nat} {v : V} {d : PyData} (t : TD K H W N D v d) (h1 : W ≤ W') (h2 : N ≤ N') (h3 : D ≤ D') : TD K H W' N' D' v d := ⟨t.dy, t.to, Nat.le_trans t.wt h1, Nat.le_trans t.nd h2, Nat.le_trans t.dp h3, t.ok⟩
inductive TDs (K : PySem.W.Frag) (H : Hp) (W N D : Nat) : List V → List PyData → Prop
  | nil : TDs K H W N D [] []
  | cons {v : V} {vs : List V} {d : PyData} {ds : List PyData} : TD K H W N D v d → TDs K H W N D vs ds → TDs K H W N D (v :: vs) (d :: ds)
theorem TDs.st {K : PySem.W.Frag} {H H' : Hp} {W N D : Nat} (s : ST K H H') : ∀ {vs : List V} {ds : List PyData}, TDs K H W N D vs ds → TDs K H' W N D vs ds
  | _, _, .nil => .nil
  | _, _, .cons a b => .cons (a.st s) (b.st s)
theorem TDs.one {K : PySem.W.Frag} {H : Hp} {W N D : Nat} {v : V} {d : PyData} (t : TD K H W N D v d) : ∀ {vs : List V} {ds : List PyData}, TDs K H W N D vs ds → TDs K H W N D (vs ++ [v]) (ds ++ [d])
  | _, _, .nil => .cons t .nil
  | _, _, .cons a b => .cons a (b.one t)
theorem TDs.len {K : PySem.W.Frag} {H : Hp} {W N D : Nat} : ∀ {vs : List V} {ds : List PyData}, TDs K H W N D vs ds → vs.length = ds.length
  | _, _, .nil => rfl
  | _, _, .cons _ b => by rw [List.length_cons, List.length_cons, b.len]
theorem TDs.all {K : PySem.W.Frag} {H : Hp} {W N D : Nat} : ∀ {vs : List V} {ds : List PyData}, TDs K H W N D vs ds → DyAll K H vs ds ∧ tupOnlys ds = true ∧ wts ds ≤ ds.length * W ∧ nodess ds ≤ ds.length * N ∧ PyData.depthAll ds ≤ D ∧ okDs 1000000000 ds
  | _, _, .nil => ⟨.nil, rfl, by simp [wts], by simp [nodess], by simp [PyData.depthAll], by simp [okDs]⟩
  | _, _, .cons (ds := ds) a b => by
    obtain ⟨b1, b2, b3, b4, b5, b6⟩ := b.all
    refine ⟨.cons a.dy b1, by simp only [tupOnlys, a.to, b2]; rfl, ?_, ?_, ?_, ?_⟩
    · have := a.wt
      simp only [wts, List.length_cons, Nat.succ_mul]
      omega
    · have := a.nd
      simp only [nodess, List.length_cons, Nat.succ_mul]
      omega
    · have := a.dp
      simp only [PyData.depthAll]
      omega
    · simp only [okDs]
      exact ⟨a.ok, b6⟩
/-- a tuple of such ones -/
theorem TDs.tup {K : PySem.W.Frag} {H : Hp} {W N D n : Nat} {a : Addr} {vs : List V} {ds : List PyData} (t : TDs K H W N D vs ds) (hs : SqT K H a vs) (hn : ds.length ≤ n) : TD K H (n * W + 10) (n * N + 1) (D + 1) (.ref a) (.tuple ds) := by
  obtain ⟨b1, b2, b3, b4, b5, b6⟩ := t.all
  have h1 := Nat.mul_le_mul_right W hn
  have h2 := Nat.mul_le_mul_right N hn
  refine ⟨.tup hs b1, by simp only [tupOnly]; exact b2, ?_, ?_, ?_, ?_⟩
  · simp only [NL.wt]
    omega
  · simp only [nodes]
    omega
  · simp only [PyData.depth]
    omega
  · simp only [okD]
    exact b6
end NL
/-! a list set aside while a def is called: it stays, and nothing new leads to it -/
namespace NL
open PySem PySem.Spec PyProof.Rows L2 Evl
theorem ObjOk.over {P : Program} {w : World} {H H' : Hp} {h : Heap} (k : ∀ x u, H x = some u → (∀ zs, u ≠ .lst zs) → H' x = some u) : ∀ {o : HO} {a : Addr}, ObjOk P w H h a o → ObjOk P w H' h a o
  | .lst _, _, x => x
  | .tup _, _, x => x
  | .dK _, _, x => x
  | .dT kvs, a, x => by
    obtain ⟨h1, h2, xs, h3, h4⟩ := x
    exact ⟨h1, h2, xs, Paired.mapP h3 (fun p q r => ⟨r.1, k _ _ r.2.1 (fun zs z => by cases z), r.2.2⟩), h4⟩
  | .set _ _, _, x => x
  | .ins C dx fs, a, x => ⟨k _ _ x.1 (fun zs z => by cases z), x.2⟩
  | .own _, _, x => x
  | .xd _, _, x => x
  | .rng _ _, _, x => x
  | .frz o u, a, x => ⟨x.1, ObjOk.over k (o := u) x.2⟩
  | .tbl _, _, x => x
  | .met _ _, _, x => x
  | .ext _, _, x => x
def framed (sp : Sp) : Sp := fun vs H Q E => ∃ (q : Addr) (zs : List V), H q = some (.lst zs) ∧ sp vs (aside H [q]) (fun v H' => H' q = none → Q v (upd H' q (.lst zs))) E
section
variable {P : Program} {w : World} {K : PySem.W.Frag} {mg : Str → Option Value} {base : Heap} {k : Nat} {f : Addr} {fd : FuncData} {ps : List Str} {sp : Sp}
theorem aside_none {H : Hp} {S : List Addr} {b : Addr} (h : H b = none) : aside H S b = none := by
  by_cases hb : b ∈ S
  · exact aside_in hb
  · rw [aside_at hb]
    exact h
theorem env_less {A : Around} {outer : List Env} {s : Shared} {H : Hp} {q : Addr} {zs : List V} (e : Env0 P w K mg base A outer s H) (hq : H q = some (.lst zs)) : Env0 P w K mg base A outer s (aside H [q]) := by
  refine ⟨e.frames, e.mod, fun b o hb => ⟨(e.bs b o hb).1, aside_none (e.bs b o hb).2⟩, e.bsz, e.funs, fun b hb => aside_none (e.frf b hb), fun a o ha => ?_, e.bare⟩
  have hne : a ∉ [q] := fun z => by
    rw [aside_in z] at ha
    cases ha
  rw [aside_at hne] at ha
  refine ObjOk.over (fun x u hx nl => ?_) (e.hok a o ha)
  have hxq : x ∉ [q] := fun z => by
    rw [List.mem_singleton.mp z, hq] at hx
    cases hx
    exact nl _ rfl
  rw [aside_at hxq]
  exact hx
theorem end_more {outer : List Env} {H : Hp} {s s' : Shared} {q : Addr} {zs : List V} {Q : VK} {u : Value} (hok : HOk P w H s.heap) (frf : ∀ b ∈ frs outer, H b = none) (hq : H q = some (.lst zs)) (c : CE outer P w (aside H [q]) s (fun v H' => H' q = none → Q v (upd H' q (.lst zs))) u s') : CE outer P w H s Q u s' := by
  obtain ⟨v, H', os, bare, un, hok', ru, fin⟩ := c
  have okq := hok q _ hq
  obtain ⟨len, its, n, rv, at_q⟩ := okq
  have nq : aside H [q] q = none := aside_in (List.mem_singleton.mpr rfl)
  have free : H' q = none := un.free q _ at_q nq (by simp)
  have offq : q ∉ frs outer := fun z => by
    rw [frf q z] at hq
    cases hq
  have ne : ∀ {b : Addr} {o : HO}, H b = none ∨ (H b = some o ∧ ∀ zs, o ≠ .lst zs) → b ≠ q := fun h z => by
    subst z
    rcases h with h | ⟨h, nl⟩
    · rw [hq] at h
      cases h
    · rw [hq] at h
      cases h
      exact nl _ rfl
  have at_ne : ∀ {b : Addr}, b ≠ q → aside H [q] b = H b := fun h => aside_at (by simpa using h)
  refine ⟨v, upd H' q (.lst zs), os, bare, ⟨fun b o hb hn hf hx => un.keep b o hb (aside_none hn) hf hx, fun b o hb hn hf hx => un.slot b o hb (aside_none hn) hf hx, fun b o hb hn hx => ?_, un.there, fun b xs hb => ?_, fun b o y hb => ?_, fun b p hb => ?_⟩, fun a o ha => ?_, ru, fin free⟩
  · rw [upd_ne (ne (o := .lst []) (Or.inl hn))]
    exact un.free b o hb (aside_none hn) hx
  · have hne := ne (Or.inr ⟨hb, fun zs z => by cases z⟩)
    rw [upd_ne hne]
    exact un.tups b xs (by rw [at_ne hne]; exact hb)
  · have hne := ne (Or.inr ⟨hb, fun zs z => by cases z⟩)
    rw [upd_ne hne]
    exact un.frzs b o y (by rw [at_ne hne]; exact hb)
  · have hne := ne (Or.inr ⟨hb, fun zs z => by cases z⟩)
    rw [upd_ne hne]
    exact un.tbls b p (by rw [at_ne hne]; exact hb)
  · by_cases hne : a = q
    · subst hne
      rw [upd_same] at ha
      cases ha
      exact ⟨len, its, n, rv, un.keep a _ at_q nq offq (by simp)⟩
    · rw [upd_ne hne] at ha
      exact ObjOk.over (fun x u hx _ => (Ex.new free) x u hx) (hok' a o ha)
theorem FnG.frame (F : FnG P w K mg base k f fd ps sp) : FnG P w K mg base k f fd ps (framed sp) := by
  refine ⟨fun xs H Q E h => ?_, fun A envs s H ar vals xs Q E quiet room env binds rel told => ?_⟩
  · obtain ⟨q, zs, _, h⟩ := h
    exact F.arity _ _ _ _ h
  obtain ⟨q, zs, hq, told⟩ := told
  refine codeAny_mono (F.go A envs s (aside H [q]) ar vals xs _ E quiet room (env_less env hq) binds rel told) fun r s' out => ?_
  match r, out with
  | .error _, out => exact out.elim
  | .ok .next, out => exact out.elim
  | .ok .brk, out => exact out.elim
  | .ok .cont, out => exact out.elim
  | .ok (.ret u), out => exact end_more env.hok env.frf hq out
theorem FnOk.frame (F : FnOk P w K mg base CX0 k f fd ps sp) : FnOk P w K mg base CX0 k f fd ps (framed sp) := by
  refine ⟨fun xs H Q E h => ?_, fun A envs s H ar vals xs Q E room env binds rel told => ?_⟩
  · obtain ⟨q, zs, _, h⟩ := h
    exact F.len _ _ _ _ h
  obtain ⟨q, zs, hq, told⟩ := told
  refine codeAny_mono (F.run A envs s (aside H [q]) ar vals xs _ E room (env_less env hq) binds rel told) fun r s' out => ?_
  match r, out with
  | .error _, out => exact out.elim
  | .ok .next, out => exact out.elim
  | .ok .brk, out => exact out.elim
  | .ok .cont, out => exact out.elim
  | .ok (.ret u), out => exact end_more env.hok env.frf hq out
end
/-! ### what stays of the hand, and of data, across such a call -/
end NL
/-! sorted of a tuple of texts -/
namespace NL
open PySem PySem.Spec PyProof.Rows L2 Evl
section
variable {P : Program} {w : World} {A : Around} {E : Value → Shared → Prop} {s : Shared}
abbrev noneList : Obj := seqObj "list" #[] 0
abbrev heldAll (h : Heap) (us : List Value) : Heap := (h.push noneList).update h.objs.size (Obj.mapSeq (· ++ us.toArray))
theorem gather_tuple {l : Addr} {us : List Value} {Q : List Value → Shared → Prop} (isT : s.heap.IsTuple l us.toArray) (told : Q us { s with heap := heldAll s.heap us }) (few : us.length ≤ sizeLine) :
    wpAny (model P w) A (collect (.ref l)) Q E s := by
  obtain ⟨ob, at_l, oc, m, od⟩ := isT
  unfold collect
  refine wpAny_bind (wpAny_runValue (codeAny_builtin entry_proto_collect' ?_))
  change wpAny _ _ (do again (.builtin "list.__iadd__" ⟨[← newList [], .ref l], []⟩)) _ _ s
  refine wpAny_bind (wpAny_newList (wpAny_pure ⟨Code.quiet_builtin _ (by decide +kernel), codeAny_builtin entry_list_iadd' ?_⟩))
  change wpAny _ _ (Builtin.List.listExtendWith (.ref s.heap.objs.size) (.ref l) (.ref s.heap.objs.size)) _ _ { s with heap := s.heap.push noneList }
  unfold Builtin.List.listExtendWith
  have at2 : (s.heap.push noneList).get? l = some ob := Heap.get?_push_of_some _ at_l
  refine wpAny_bind (wpAny_typeOf (T := "tuple") ⟨ob, at2, oc⟩ ?_)
  have ty : (Value.type "tuple" == Value.type "tuple") = true := by rfl
  rw [if_pos (by rw [ty]; simp)]
  refine wpAny_bind (listItems_at at2 od (wpAny_bind (listItems_at (xs := #[]) (n := 0) (Heap.get?_push_size _ rfl) rfl ?_)))
  rw [if_neg (by simp)]
  refine wpAny_bind (listUpdate_at (xs := #[]) (n := 0) (Heap.get?_push_size _ rfl) rfl ?_ (Nat.zero_le _) (by change (#[] ++ us.toArray).size ≤ sizeLine + 1; simp only [Array.size_append, List.size_toArray, List.length_nil]; omega))
  refine wpAny_pure ?_
  change wpAny (model P w) A (load s.heap.objs.size >>= _) Q E { s with heap := heldAll s.heap us }
  refine wpAny_bind (wpAny_load (get?_update_seq (Heap.get?_push_size _ rfl) _) ?_)
  change wpAny _ _ (pure ((#[] : Array Value) ++ us.toArray).toList) Q E _
  have same : ((#[] : Array Value) ++ us.toArray).toList = us := by simp
  rw [same]
  exact wpAny_pure told
theorem sorted_tuple {l : Addr} {us : List Value} {xs : List Str} {Q : Value → Shared → Prop} (isT : s.heap.IsTuple l us.toArray) (texts : StrsAre us xs) (few : us.length < 64)
    (told : ∀ (out : Array Value) (ys : List Str), StrsAre out.toList ys → ys.Perm xs → sortedS ys = true → Q (.ref (s.heap.objs.size + 1)) { s with heap := sortedAll s.heap us out }) :
    wpAny (model P w) A (call (.builtin "sorted") [.ref l]) Q E s := by
  have fits : us.length ≤ sizeLine := small64 few
  refine Calls.call_function_entry kind_sorted plain_sorted entry_sorted (args_sorted1 _) ?_
  unfold Builtin.«sorted»
  refine wpAny_bind (m := checkCount "sorted" 1 1 _) (wpAny_pure (wpAny_bind (gather_tuple isT (wpAny_bind (wpAny_newList ?_ fits)) fits)))
  have sz : (heldAll s.heap us).objs.size = s.heap.objs.size + 1 := by
    rw [Heap.size_update, size_push']
  have at3 : ((heldAll s.heap us).push (seqObj "list" us.toArray 0)).get? (s.heap.objs.size + 1) = some (seqObj "list" us.toArray 0) := by
    rw [← sz]
    exact Heap.get?_push_size _ rfl
  change wpAny _ _ _ _ _ { s with heap := (heldAll s.heap us).push (seqObj "list" us.toArray 0) }
  rw [sz]
  refine wpAny_bind (wpAny_holding (wpAny_call_entry slot_list_sort ⟨_, at3, rfl⟩ entry_list_sort (list_sort_treeK strKind_oneLt at3 texts.keysOf (fun a b r e => keyKind_strs (by rw [← e]; exact texts)) few fun st pm so => ⟨_, rfl, ?_⟩) (args_list_sort _)))
  obtain ⟨ys, h1, h2, h3⟩ := sorted_out_str texts pm so
  exact wpAny_pure ⟨_, rfl, told _ ys h1 h2 h3⟩
end
section
variable {X : Cx}
def rSortT (K : PySem.W.Frag) : List V → Hp → VK → Prop := fun vs H Q => ∃ (a : Addr) (xs : List Str), vs = [V.ref a] ∧ SqT K H a (xs.map V.str) ∧ xs.length < 64 ∧ ∀ (ys : List Str) (p : Addr), ys.Perm xs → sortedS ys = true → H p = none → Q (.ref p) (upd H p (.lst (ys.map V.str)))
theorem sortTK {K : PySem.W.Frag} (h : X.K = K) : CallR X (.builtin "sorted") (rSortT K) := by
  subst h
  intro pins s σ H vs us Q I rel told
  obtain ⟨a, xs, rfl, hs, few, q⟩ := told
  obtain ⟨u, rfl, ru⟩ := vals1 rel
  cases ru
  obtain ⟨its, rv, pt, _⟩ := I.tuple hs
  have len := rv.length
  rw [List.length_map] at len
  refine sorted_tuple (us := its) pt rv.strs (by omega) fun out ys h1 h2 h3 => ?_
  obtain ⟨ep, at_p⟩ := PyProof.Rows.sortedAll_at s.heap its out
  have fits : (ys.map V.str).length ≤ sizeLine := by
    rw [List.length_map, h2.length_eq]
    exact small64 few
  exact ⟨.ref _, upd H (s.heap.objs.size + 1) (.lst (ys.map V.str)), I.laid (t' := s.toks) (fun _ _ => PyProof.Rows.sortedAll_old) (Nat.le_succ _) ⟨fits, out.toList, ep, vals_of_strs h1, at_p⟩, rfl, q ys _ h2 h3 (I.hok.fresh (Nat.le_succ _))⟩
theorem sortLK {K : PySem.W.Frag} (h : X.K = K) : CallR X (.builtin "sorted") (rSortedS K) := by subst h; exact cr_sortedS
end
/-! ### one sorted row alone -/
def leS (x y : Str) : Prop := x.cps.toList ≤ y.cps.toList
theorem rising_le : ∀ {r : List Str} {p : Str}, risingS p r = true → ∀ y ∈ r, leS p y
  | [], _, _, y, h => by cases h
  | x :: r, p, h, y, hy => by
    simp only [risingS, Bool.and_eq_true, Bool.not_eq_true', ltCps_eq, decide_eq_false_iff_not] at h
    have px : leS p x := List.not_lt.mp h.1
    rcases List.mem_cons.mp hy with rfl | hy
    · exact px
    · exact List.le_trans px (rising_le h.2 y hy)
theorem rising_tail {r : List Str} {p : Str} (h : risingS p r = true) : sortedS r = true := by
  cases r with
  | nil => rfl
  | cons x r =>
    simp only [risingS, Bool.and_eq_true] at h
    exact h.2
theorem leS_eq {x y : Str} (h : leS x y) (k : leS y x) : x = y := by
  have e : x.cps.toList = y.cps.toList := List.le_antisymm h k
  cases x
  cases y
  simpa using e
theorem sorted_unique : ∀ {xs ys : List Str}, sortedS xs = true → sortedS ys = true → xs.Perm ys → xs = ys
  | [], ys, _, _, p => by
    have := p.length_eq
    cases ys with
    | nil => rfl
    | cons _ _ => simp at this
  | x :: r, [], _, _, p => by
    have := p.length_eq
    simp at this
  | x :: r, y :: q, hx, hy, p => by
    have h1 : ∀ z ∈ r, leS x z := rising_le hx
    have h2 : ∀ z ∈ q, leS y z := rising_le hy
    have e : x = y := by
      have hxm : x ∈ y :: q := p.mem_iff.mp (List.mem_cons_self ..)
      have hym : y ∈ x :: r := p.mem_iff.mpr (List.mem_cons_self ..)
      rcases List.mem_cons.mp hxm with h | h
      · exact h
      · rcases List.mem_cons.mp hym with k | k
        · exact k.symm
        · exact leS_eq (h1 y k) (h2 x h)
    subst e
    rw [sorted_unique (rising_tail hx) (rising_tail hy) (List.Perm.cons_inv p)]
theorem nodes_lenB : ∀ ds : List PyData, ds.length ≤ nodess ds
  | [] => by simp
  | d :: ds => by
    have := nodes_lenB ds
    have : 1 ≤ nodes d := by cases d <;> simp [nodes]
    simp only [List.length_cons, nodess]
    omega
theorem nodes_memB : ∀ {ds : List PyData} {d : PyData}, d ∈ ds → nodes d ≤ nodess ds
  | [], _, h => by cases h
  | e :: ds, d, h => by
    simp only [nodess]
    rcases List.mem_cons.mp h with rfl | h
    · omega
    · have := nodes_memB h
      omega
theorem oks_memB {B : Nat} : ∀ {ds : List PyData}, okDs B ds → ∀ d ∈ ds, okD B d
  | [], _, d, h => by cases h
  | e :: ds, o, d, h => by
    simp only [okDs] at o
    rcases List.mem_cons.mp h with rfl | h
    · exact o.1
    · exact oks_memB o.2 d h
def insS (x : Str) : List Str → List Str
  | [] => [x]
  | y :: r => if y.cps.toList < x.cps.toList then y :: insS x r else x :: y :: r
theorem insS_perm (x : Str) : ∀ r : List Str, (insS x r).Perm (x :: r)
  | [] => List.Perm.refl _
  | y :: r => by
    unfold insS
    split
    · exact ((insS_perm x r).cons y).trans (List.Perm.swap x y r)
    · exact List.Perm.refl _
theorem insS_rise (x : Str) : ∀ {r : List Str} {p : Str}, risingS p r = true → leS p x → risingS p (insS x r) = true
  | [], p, _, h => by
    simp only [insS, risingS, Bool.and_true, Bool.not_eq_true', ltCps_eq, decide_eq_false_iff_not]
    exact List.not_lt.mpr h
  | y :: r, p, hr, h => by
    simp only [risingS, Bool.and_eq_true] at hr
    unfold insS
    split
    · rename_i hy
      simp only [risingS, Bool.and_eq_true]
      exact ⟨hr.1, insS_rise x hr.2 (List.le_of_lt hy)⟩
    · rename_i hy
      simp only [risingS, Bool.and_eq_true, Bool.not_eq_true', ltCps_eq, decide_eq_false_iff_not]
      exact ⟨List.not_lt.mpr h, hy, hr.2⟩
theorem insS_sorted (x : Str) : ∀ {r : List Str}, sortedS r = true → sortedS (insS x r) = true
  | [], _ => rfl
  | y :: r, h => by
    unfold insS
    split
    · rename_i hy
      exact insS_rise x h (List.le_of_lt hy)
    · rename_i hy
      simp only [sortedS, risingS, Bool.and_eq_true, Bool.not_eq_true', ltCps_eq, decide_eq_false_iff_not]
      exact ⟨hy, h⟩
theorem sort_ex : ∀ xs : List Str, ∃ ys : List Str, ys.Perm xs ∧ sortedS ys = true
  | [] => ⟨[], List.Perm.refl _, rfl⟩
  | x :: xs => by
    obtain ⟨ys, h1, h2⟩ := sort_ex xs
    exact ⟨insS x ys, (insS_perm x ys).trans (h1.cons x), insS_sorted x h2⟩
end NL
/-! the law's own call, with the modules' dict held in sight -/
namespace NL
open PySem PySem.Spec PyProof.Rows L2 Evl
section
variable {P : Program} {w : World} {K : PySem.W.Frag} {mg mb : Str → Option Value} {k : Nat} {fa a : Addr} {fd : FuncData} {x : Str} {sp : Sp} {s : Shared} {vals : List Value} {ns : List Int}
theorem held_call (kin : K.In s.heap) (glob : s.heap.Ns mainGlobals mg) (blt : s.heap.Ns builtinsNs mb) (boot : ∀ x : Str, x ≠ "__name__" → mb x = bootBuiltins x) (nolim : s.heap.NoLimit) (gens : s.gens = #[])
    (script : s.heap.get? a = some { cls := .type "list", data := .seq vals.toArray }) (room : Room k callerA) (F : ∀ base : Heap, K.In base → base.Ns mainGlobals mg → FnG P w K mg base k fa fd [x] sp)
    (bind : ∀ (s : Shared) (u : Value), BindsTo s fd ⟨[u], []⟩ [(x, u)]) (H : Hp) (only : ∀ b, H b = none ∨ ∃ o u, H b = some (.frz o u)) (promise : sp [.ref a] H (fun v _ => v = .bl true) E0) (hok : HOk P w H s.heap) (just : ∀ b, H b ≠ none → b = a ∨ b = sysModules) (off : ∀ b, H b ≠ none → K.lookup b = none) :
    codeAny (model P w) callerA (.call (.ref fa) ⟨[.ref a], []⟩) (fun r s' => r = .ok (.ret (.bool true)) ∧ OldK s.heap s'.heap ∧ s'.os = s.os ∧ AllBare s'.gens) s := by
  have free : ∀ {b : Addr} {o : Obj}, s.heap.get? b = some o → b ≠ sysModules → (∀ its n, o.data ≠ .seq its n) → H b = none := by
    intro b o e nsys nseq
    cases hb : H b with
    | none => rfl
    | some u =>
      exfalso
      rcases just b (by rw [hb]; exact fun z => by cases z) with eb | eb
      · subst eb
        rw [script] at e
        cases e
        exact nseq _ _ rfl
      · exact nsys eb
  have seen : ∀ {b : Addr} {m : Str → Option Value}, b ≠ sysModules → s.heap.Ns b m → (hidT s.heap H).Ns b m := by
    intro b m n h
    obtain ⟨o, es, ep, e, d, r⟩ := h
    exact ⟨o, es, ep, hidT_get e (free e n (fun its n z => by rw [d] at z; cases z)), d, r⟩
  have kin' : K.In (hidT s.heap H) := by
    intro b o e
    refine hidT_get (kin b o e) ?_
    cases hb : H b with
    | none => rfl
    | some u =>
      exfalso
      rw [off b (by rw [hb]; exact fun z => by cases z)] at e
      cases e
  have m1 : mainGlobals ≠ sysModules := by decide
  have env0 : Env0 P w K mg (hidT s.heap H) callerA [] s H := by
    refine ⟨rfl, ⟨kin', seen m1 glob, ⟨mb, seen (by decide) blt, boot⟩, ?_⟩, fun b o e => of_hidT e, Nat.le_of_eq (hidT_size _ _), trivial, fun b hb => ?_, hok, .of_eq gens⟩
    · obtain ⟨mc, h1, h2⟩ := nolim
      exact ⟨mc, seen (by decide) h1, h2⟩
    · exact absurd (show b ∈ ([] : List Addr) from hb) (by simp)
  refine codeAny_mono ((F _ kin' (seen m1 glob)).go callerA [] s H ⟨[.ref a], []⟩ [.ref a] [.ref a] _ _ rfl room env0 (bind s (.ref a)) (.cons rfl .nil) promise) fun r s' out => ?_
  match r, out with
  | .error _, out => exact out.elim
  | .ok .next, out => exact out.elim
  | .ok .brk, out => exact out.elim
  | .ok .cont, out => exact out.elim
  | .ok (.ret u), out =>
    obtain ⟨v, H', os, bare, un, hok', ru, hv⟩ := out
    have ev : v = .bl true := hv
    subst ev
    have eu : u = Value.bool true := ru
    subst eu
    refine ⟨rfl, OldK.of_keep fun b o e => ?_, os, bare⟩
    rcases only b with z | ⟨ob, y, z⟩
    · exact un.keep b o e z (fun q => absurd (show b ∈ ([] : List Addr) from q) (by simp)) (by simp)
    · have was := (hok b _ z).1
      have now := (hok' b _ (un.frzs b ob _ z)).1
      rw [e] at was
      cases was
      exact now
theorem law_y {mm : Str → Option Value} (kin : K.In s.heap) (glob : s.heap.Ns mainGlobals mg) (blt : s.heap.Ns builtinsNs mb) (boot : ∀ x : Str, x ≠ "__name__" → mb x = bootBuiltins x) (nolim : s.heap.NoLimit) (mods : s.heap.Ns sysModules mm) (gens : s.gens = #[])
    (script : s.heap.get? a = some { cls := .type "list", data := .seq vals.toArray }) (whole : PyProof.Rows.IntsAre vals ns) (few : ns.length ≤ sizeLine) (room : Room k callerA) (F : ∀ base : Heap, K.In base → base.Ns mainGlobals mg → FnG P w K mg base k fa fd [x] sp)
    (bind : ∀ (s : Shared) (u : Value), BindsTo s fd ⟨[u], []⟩ [(x, u)]) (promise : ∀ H : Hp, Sy K H → SqL K H a (ns.map V.int) → sp [.ref a] H (fun v _ => v = .bl true) E0) :
    codeAny (model P w) callerA (.call (.ref fa) ⟨[.ref a], []⟩) (fun r s' => r = .ok (.ret (.bool true)) ∧ OldK s.heap s'.heap ∧ s'.os = s.os ∧ AllBare s'.gens) s := by
  have rel := vals_ints whole
  have many := whole.length
  obtain ⟨om, es, ep, hm, hd, _⟩ := mods
  have apart : a ≠ sysModules := by
    intro z
    subst z
    rw [script] at hm
    cases hm
    cases hd
  let S : HO := .frz { cls := .type "list", data := .seq vals.toArray } (.lst (ns.map V.int))
  let M : HO := .frz om (.ext fun _ => True)
  let H : Hp := fun b => if b = a then (if K.lookup a = none then some S else none) else if b = sysModules then (if K.lookup sysModules = none then some M else none) else none
  have Ha : H a = if K.lookup a = none then some S else none := if_pos rfl
  have Hm : H sysModules = if K.lookup sysModules = none then some M else none := by
    show (if sysModules = a then _ else _) = _
    rw [if_neg (Ne.symm apart), if_pos rfl]
  have Ho : ∀ b, b ≠ a → b ≠ sysModules → H b = none := fun b h1 h2 => by
    show (if b = a then _ else if b = sysModules then _ else none) = none
    rw [if_neg h1, if_neg h2]
  have okS : ∀ H' : Hp, ObjOk P w H' s.heap a S := fun H' => ⟨script, by rw [List.length_map]; exact few, vals, _, rel, script⟩
  have okM : ∀ H' : Hp, ObjOk P w H' s.heap sysModules M := fun H' => ⟨hm, trivial, ⟨om, hm⟩, fun _ _ _ _ => trivial⟩
  refine held_call kin glob blt boot nolim gens script room F bind H (fun b => ?_) (promise H ?_ ?_) (fun b o z => ?_) (fun b z => ?_) (fun b z => ?_)
  · by_cases h1 : b = a
    · subst h1
      rw [Ha]
      by_cases h2 : K.lookup b = none
      · rw [if_pos h2]
        exact Or.inr ⟨_, _, rfl⟩
      · rw [if_neg h2]
        exact Or.inl rfl
    · by_cases h3 : b = sysModules
      · subst h3
        rw [Hm]
        by_cases h2 : K.lookup sysModules = none
        · rw [if_pos h2]
          exact Or.inr ⟨_, _, rfl⟩
        · rw [if_neg h2]
          exact Or.inl rfl
      · exact Or.inl (Ho b h1 h3)
  · cases h2 : K.lookup sysModules with
    | none => exact Or.inr ⟨om, _, by rw [Hm, if_pos h2]⟩
    | some o => exact Or.inl ⟨o, h2⟩
  · cases h2 : K.lookup a with
    | none => exact Or.inl (Or.inr ⟨_, by rw [Ha, if_pos h2]⟩)
    | some o =>
      have e := kin a o h2
      rw [script] at e
      cases e
      exact Or.inr ⟨_, vals.toArray, _, h2, rfl, rfl, rfl, by rw [List.size_toArray, many]; exact few, by simpa using rel⟩
  · by_cases h1 : b = a
    · subst h1
      rw [Ha] at z
      by_cases h2 : K.lookup b = none
      · rw [if_pos h2] at z
        cases z
        exact okS H
      · rw [if_neg h2] at z
        cases z
    · by_cases h3 : b = sysModules
      · subst h3
        rw [Hm] at z
        by_cases h2 : K.lookup sysModules = none
        · rw [if_pos h2] at z
          cases z
          exact okM H
        · rw [if_neg h2] at z
          cases z
      · rw [Ho b h1 h3] at z
        cases z
  · by_cases h1 : b = a
    · exact Or.inl h1
    · by_cases h3 : b = sysModules
      · exact Or.inr h3
      · exact absurd (Ho b h1 h3) z
  · by_cases h1 : b = a
    · subst h1
      rw [Ha] at z
      by_cases h2 : K.lookup b = none
      · exact h2
      · rw [if_neg h2] at z
        exact absurd rfl z
    · by_cases h3 : b = sysModules
      · subst h3
        rw [Hm] at z
        by_cases h2 : K.lookup sysModules = none
        · exact h2
        · rw [if_neg h2] at z
          exact absurd rfl z
      · exact absurd (Ho b h1 h3) z
end
/-- the goal that the head leaves, from the law's promise; the modules' dict is in sight -/
theorem walk_y {l : PySem.W.OpenLaw} {n k : Nat} {q : Program} {loose : List Str} {XP : (Str → Option Value) → Heap → Prop} {YP : World → Heap → Prop} {d : DefRec} {K : Params → PySem.W.Frag} {sp : PySem.W.Frag → Sp} {x : Str}
    (hn : l.most = some n) (few : n ≤ sizeLine) (hdf : d.params.defaults = []) (himp : importsNone q = true) (room : Room k callerA) (hY : ∀ (w : World) (h : Heap), YP w h → (K w.params).In h)
    (F : ∀ (w : World) (mg : Str → Option Value) (fa : Addr) (h : Heap), (K w.params).In h → h.Ns mainGlobals mg → mg d.name = some (.ref fa) →
      ∃ fd : FuncData, (∀ (s : Shared) (u : Value), BindsTo s fd ⟨[u], []⟩ [(x, u)]) ∧ ∀ base : Heap, (K w.params).In base → base.Ns mainGlobals mg → FnG l.prog w (K w.params) mg base k fa fd [x] (sp (K w.params)))
    (promise : ∀ (K : PySem.W.Frag) (H : Hp) (a : Addr) (ns : List Int), ns.length ≤ n → Sy K H → SqL K H a (ns.map V.int) → sp K [.ref a] H (fun v _ => v = .bl true) E0) :
    PySem.W.WalkO q loose XP YP l.row.toRowW d [] (fun f vs => PySem.call f vs) := by
  refine Att.attach_call hn hdf fun w s₀ s₁ mg mb fa o pm cd doc a vs ns G Y ho hd hcd hmg hobj hints hlen hg => ?_
  have kin := hY w _ Y
  obtain ⟨fd, bind, made⟩ := F w mg fa _ kin G.T.g hmg
  obtain ⟨mm, hmm, _⟩ := (G.T.seer himp).mods
  exact law_y kin G.T.g G.T.b G.T.builtins G.T.nolimit hmm hg hobj hints (Nat.le_trans hlen few) room made bind fun H hs hS => promise _ H a ns hlen hs hS
end NL
/-! len of an object by its own __len__; dict of a tuple of pairs, of a zip of two tuples -/
namespace NL
open PySem L2 Evl
/-! ### len(x), the class has __len__ -/
/-! ### tuple(l): an object that is known to have no dict of its own -/
def rTupF (K : PySem.W.Frag) : List V → Hp → VK → Prop := fun xs H Q =>
  ∃ p ys, xs = [.ref p] ∧ SqL K H p ys ∧ ∀ (l : Addr) (o : Obj), H l = none → o.dict = none → Q (.ref l) (upd H l (.frz o (.tup ys)))
theorem call_tupF {X : Cx} {K : PySem.W.Frag} (hK : X.K = K) : CallR X (.type "tuple") (rTupF K) := by
  subst hK
  intro pins s σ H xs us Q I rv h
  obtain ⟨p, ys, rfl, hq, q⟩ := h
  obtain ⟨u, rfl, ru⟩ := vals1 rv
  cases ru
  obtain ⟨its, ri, pl, hz⟩ := I.list hq
  have hlen := ri.length
  refine PySem.call_tuple_list pl.isList (fun hp kp => ?_) (by simp only [List.size_toArray]; omega)
  have J : Inv X pins σ H { s with heap := hp } := I.kept (t' := s.toks) kp
  exact ⟨.ref hp.objs.size, _, J.laid (o := .frz { cls := .type "tuple", data := .seq its.toArray } (.tup ys)) (t' := s.toks) (fun b o e => Heap.get?_push_of_some _ e) (Nat.le_refl _)
    ⟨Heap.get?_push_size _ rfl, hz, its, ri, PyProof.Rows.IsTup.new _ _⟩, rfl, q _ _ (J.hok.fresh (Nat.le_refl _)) rfl⟩
/-! ### dict(t), t a tuple of pairs -/
/-! ### dict(zip(s, t)), s and t tuples -/
end NL
/-! a caught exception that is kept in a local behind its suite -/
namespace NL
open PySem L2 Evl
/-- an exception of the class cls at a, its own dict at d; raised or not -/
def XcO (cls : Value) (d : Option Addr) (a : Addr) : HO := .ext fun h => ∃ (ob : Obj) (vs : Array Value), h.get? a = some ob ∧ Zc cls d ob ∧ ob.data = .fields vs
theorem xcO_ok {P : Program} {w : World} {H : Hp} {h : Heap} {a : Addr} {cls : Value} {d : Option Addr} {ob : Obj} {vs : Array Value} (e : h.get? a = some ob) (z : Zc cls d ob) (dt : ob.data = .fields vs) : ObjOk P w H h a (XcO cls d a) :=
  ⟨⟨ob, vs, e, z, dt⟩, ⟨ob, e⟩, fun _ _ ⟨o, v, q, r⟩ k => ⟨o, v, k o q, r⟩⟩
/-- an object that is there, untracked, and was not there at the def's entry: from now on it is tracked -/
theorem track {X : Cx} {pins : List (Addr × Obj)} {σ : L2.St} {H : Hp} {s : Shared} {a : Addr} {o : HO} (I : Inv X pins σ H s) (n0 : X.s_0.heap.get? a = none) (na : H a = none) (nl : a ≠ X.env.locals)
    (nc : ∀ x c, X.env.cells.lookup x = some c → c ≠ a) (np : ∀ p ∈ X.pn ++ pins, p.1 ≠ a) (new : ObjOk X.prog X.w (upd H a o) s.heap a o) : Inv X pins σ (upd H a o) s := by
  have old : ∀ {b : Addr} {ob : Obj}, X.s_0.heap.get? b = some ob → b ≠ a := fun {b ob} e z => by
    subst z
    rw [n0] at e
    cases e
  have far : ∀ {b : Addr} {u : HO}, H b = some u → upd H a o b = some u := fun {b u} e => by
    rw [upd_ne (ne_of_none e na)]
    exact e
  refine ⟨I.ok, I.os, I.bare, ⟨I.base.keep, I.base.slot, ?_, I.base.there, ?_, ?_, ?_⟩, I.loc, I.cell, ?_, ?_, ?_, ?_, I.len⟩
  · intro b ob e n hx
    rw [upd_ne (old e)]
    exact I.base.free b ob e n hx
  · exact fun b xs e => far (I.base.tups b xs e)
  · exact fun b ob u e => far (I.base.frzs b ob u e)
  · intro b ps e
    obtain ⟨m, q⟩ := I.base.tbls b ps e
    exact ⟨m, far q⟩
  · rw [upd_ne (Ne.symm nl)]
    exact I.free
  · intro x c e
    rw [upd_ne (nc x c e)]
    exact I.freeC x c e
  · intro p hp
    obtain ⟨q1, q2, q3⟩ := I.pin p hp
    exact ⟨q1, by rw [upd_ne (np p hp)]; exact q2, q3⟩
  · intro b u e
    by_cases z : b = a
    · subst z
      rw [upd_same] at e
      cases e
      exact new
    · rw [upd_ne z] at e
      exact (I.hok b u e).stay (fun _ _ _ q => q) (fun _ q => far q) fun _ _ q => far q
/-- 'except x as n: suite', the exception tracked behind the suite: slot i is n's -/
def wKp (K : PySem.W.Frag) (c : Value) (i : Nat) (ts : Addr → Value → Option Addr → TS) (Wo : WX) (D : Ends) : WX := fun cls d σ H =>
  ∃ b, PySem.W.exmOne K cls c = some b ∧
    (b = true → ∀ a, H a = none → ts a cls d { nx := fun σ' H' => D.nx (σ'.set i none) (upd H' a (XcO cls d a)), rt := fun _ _ => False, bk := fun _ _ => False, ct := fun _ _ => False } (σ.set i (some (.ref a))) H) ∧
    (b = false → Wo cls d σ H)
theorem ps_try_keep {X : Cx} {x n : Str} {c : Value} {i : Nat} {body suite : List Stmt} {b0 : Stmt} {np_ pos pos' : Pos} {tb : WX → TS} {ts : Addr → Value → Option Addr → TS} {Wo : WX}
    (hst : X.stack = X.env :: X.outer) (hfr : X.env.frame = some X.env.locals) (hex : X.ex = []) (hN : X.N.Nodup) (hi : X.N[i]? = some n) (hln : X.env.kindOf n = some .local) (hc : Names X x c) (tk : Takes X Wo)
    (hb : ∀ (W : WX) (pn : List (Addr × Obj)) (xe : Value → Shared → Prop), Takes (X.tr pn xe) W → PassesOwn (model X.prog X.w) X.A X.env xe → PSs (X.tr pn xe) body (tb W))
    (hsu : ∀ (a : Addr) (oe : Obj) (cls : Value) (d : Option Addr) (pn : List (Addr × Obj)), Zc cls d oe → (∃ vs, oe.data = .fields vs) → PSs (X.suite a ((a, oe) :: pn)) (b0 :: suite) (ts a cls d)) :
    PS X (.Try body [.ExceptHandler (some (.Name x np_)) (some n) (b0 :: suite) pos'] [] [] pos) (fun D σ H => tb (wKp X.K c i ts Wo D) D σ H) := by
  refine ⟨fun pins s σ H D I h => wpAny_Try_except ?_⟩
  have okX := I.ok
  have frm : X.A.frames = some (X.env :: X.outer) := okX.frames.trans (congrArg some hst)
  refine wpAny_mono ((hb _ (X.pn ++ pins) _ (fun u s' hx => ?_) PassesOwn.looking).run [] s σ H D (I.toTry _) h) (fun f s1 hsp => ?_) (fun e s1 he => he)
  rotate_left
  · cases f with
    | next =>
      obtain ⟨σ1, H1, J1, q1⟩ := hsp
      exact wpAny_execs_nil ⟨σ1, H1, J1.ofTry okX, q1⟩
    | brk =>
      obtain ⟨σ1, H1, J1, q1⟩ := hsp
      exact ⟨σ1, H1, J1.ofTry okX, q1⟩
    | cont =>
      obtain ⟨σ1, H1, J1, q1⟩ := hsp
      exact ⟨σ1, H1, J1.ofTry okX, q1⟩
    | ret u =>
      obtain ⟨v1, σ1, H1, J1, r1, q1⟩ := hsp
      exact ⟨v1, σ1, H1, J1.ofTry okX, r1, q1⟩
  obtain ⟨a, B, sI, pins', σ', H', cls, d, rfl, J', nb, up, sky, na, hos, ag, b, hb1, hyes, hno⟩ := hx
  have J : Inv X pins σ' H' sI := J'.ofTry okX
  have sk : Sky B (X.env :: X.outer) a (Zc cls d) X.env.locals s'.heap := hst ▸ sky
  refine Sky.land Zc.steady frm hfr sk fun g3 fly up3 => ?_
  have J3 : Inv X pins σ' H' { s' with heap := g3 } := J.landed nb fly.1 (up.trans up3) hos ag
  obtain ⟨ob3, vs3, at3, z3, dt3⟩ := fly.there
  have out : a ∉ frs (X.env :: X.outer) := fun hm => by
    obtain ⟨_, ob, e, nf⟩ := fly.2.2.1.mem hm
    rw [at3] at e
    cases e
    exact nf _ dt3
  have nl : a ≠ X.env.locals := fun z => out (List.mem_filterMap.mpr ⟨X.env, List.mem_cons_self, z ▸ hfr⟩)
  have nf : a ∉ X.fs := fun hm => by
    obtain ⟨e, he, q⟩ := List.mem_filterMap.mp hm
    exact out (List.mem_filterMap.mpr ⟨e, List.mem_cons_of_mem _ he, q⟩)
  -- it is new
  have gone : sI.heap.get? a = none := by
    cases e : sI.heap.get? a with
    | none => rfl
    | some ob =>
      have z := nb a ob e (by rw [hst]; exact out)
      rw [fly.2.1] at z
      cases z
  have n0 : X.s_0.heap.get? a = none := by
    cases e : X.s_0.heap.get? a with
    | none => rfl
    | some ob =>
      obtain ⟨ob', z⟩ := J.base.there a ob e (by rw [hex]; exact fun z => nomatch z)
      rw [gone] at z
      cases z
  have nc : ∀ y q, X.env.cells.lookup y = some q → q ≠ a := fun y q e z => by
    obtain ⟨v, ob, w1, _⟩ := J.cell y q e
    rw [z, gone] at w1
    cases w1
  have np : ∀ q ∈ X.pn ++ pins, q.1 ≠ a := fun q hq z => by
    have w1 := (J.pin q hq).1
    rw [z, gone] at w1
    cases w1
  -- is it of that class
  have S3 := J3.suite at3 dt3 na nl nf
  refine wpAny_handleBy_cons (codeAny_handlers_test ?_) (fun q => by cases q)
  have lt : PySem.W.Looks (model X.prog X.w) g3 (typeOf (.ref a)) cls := fun A Q E s k q => wpAny_typeOf_ref (k _ _ at3) (z3.1 ▸ q)
  have lm := PySem.W.exm_one (M := model X.prog X.w) J3.kIn lt hb1
  have named : ∀ {Q : Value → Shared → Prop} {E : Value → Shared → Prop}, Q c { s' with heap := g3 } → wpAny (model X.prog X.w) (X.A.mark (some (.ref a))) (eval (.Name x np_) X.env) Q E { s' with heap := g3 } := fun {Q E} q => by
    obtain ⟨hg, hdb, hm | ⟨hm, hv, hnn⟩⟩ := hc
    · exact ld_glob (X := X.suite a _) S3 hg hm q hdb
    · exact ld_blt (X := X.suite a _) S3 hg hm hv q hnn hdb
  refine named (lm.here ?_)
  cases b with
  | true =>
    refine codeAny_handlers_suite_as (HandSPX.lands_againZ fly fun g4 fly4 up4 => ?_)
    have J4 : Inv X pins σ' H' { s' with heap := g4 } := J.landed nb fly4.1 ((up.trans up3).trans up4) hos ag
    obtain ⟨ob4, vs4, at4, z4, dt4⟩ := fly4.there
    have S4 := J4.suite at4 dt4 na nl nf
    refine store_ok (X := X.suite a _) (v := .ref a) S4 hN hi (.inl hln) rfl (fun s5 S5 => ?_) (.inr hln)
    refine wpAny_mono ((hsu a ob4 cls d (X.pn ++ pins) z4 ⟨_, dt4⟩).run [] s5 _ H' _ S5 (hyes rfl a na)) (fun f s6 hsp => ?_) (fun _ _ z => z.elim)
    cases f with
    | next =>
      obtain ⟨σ6, H6, S6, q6⟩ := hsp
      have p6 := S6.pin (a, ob4) (List.mem_append_left _ List.mem_cons_self)
      exact gone_ok (track (S6.unsuite okX) n0 p6.2.1 nl nc np (xcO_ok p6.1 z4 dt4)) hN hi hln fun s7 J7 => ⟨_, _, J7, q6⟩
    | brk =>
      obtain ⟨_, _, _, q6⟩ := hsp
      exact q6.elim
    | cont =>
      obtain ⟨_, _, _, q6⟩ := hsp
      exact q6.elim
    | ret u =>
      obtain ⟨_, _, _, _, _, q6⟩ := hsp
      exact q6.elim
  | false =>
    refine wpAny_handleBy_nil ?_
    obtain ⟨_, _, _, ob, vs, T, _, _, at0, _, dt0, e1, _⟩ := id fly
    unfold PySem.passOn
    refine wpAny_bind (wpAny_field at0 dt0 e1 ?_)
    rw [if_neg (fun z => by cases z)]
    have on : wpAny (model X.prog X.w) X.A (setFlight (.ref a) X.env.frame) (fun _ s4 => wpAny (model X.prog X.w) X.A (throw (.ref a) : Sem Flow) (SP X pins D) X.xe s4) X.xe { s' with heap := g3 } := by
      rw [hfr]
      exact HandSPX.setFlight_upZ fly fun g4 fly4 up4 => wpAny_throw (tk _ _ ⟨a, B, sI, pins, σ', H', cls, d, rfl, J, nb, (up.trans up3).trans up4, Or.inr (Or.inr (hst ▸ fly4)), na, hos, ag, hno rfl⟩)
    first
      | exact wpAny_bind on
      | exact wpAny_bind (wpAny_pure (wpAny_bind on))
/-- e.f, e a tracked exception of the class C with its own dict -/
def tXk (C : Addr) (f : Str) (te : TE) : TE := fun σ H Q => te σ H fun x H1 => ∃ (a dd : Addr) (fs : List (Str × V)) (v : V), x = .ref a ∧ H1 a = some (XcO (.ref C) (some dd) a) ∧ H1 dd = some (.xd fs) ∧ fs.lookup f = some v ∧ Q v H1
theorem pe_xk {X : Cx} {C : Addr} {e : Expr} {te : TE} {pos : Pos} {f : Str} (T : XfC X.K C) (hno : PySem.W.findIn X.K (.ref C) f = some none) (he : PE X e te) (hb : attributeBase e f X.env (eval e X.env) = eval e X.env := by rfl) :
    PE X (.Attribute e f pos) (tXk C f te) := by
  refine ⟨fun pins s σ H Q I h => attr_of hb (thn (he.run pins s σ H _ I h) fun u s1 hh => ?_)⟩
  obtain ⟨x, H1, I1, rx, a, dd, fs, v, rfl, ha, hdd, hl, q⟩ := hh
  cases rx
  obtain ⟨⟨ob, vs, at1, z, dt⟩, _⟩ := I1.hok a _ ha
  obtain ⟨mA, ns, hr⟩ := I1.hok dd _ hdd
  obtain ⟨od, ho, look⟩ := lookIn_ns ns
  obtain ⟨u, hu, ru⟩ := RelO.some_of (v := v) (o := mA f) (hl ▸ hr f)
  have J : PySem.W.InstAt s1.heap a ob C (some od) := ⟨at1, z.1, by unfold PySem.W.notCls; rw [dt] <;> rfl, z.2 ▸ ho⟩
  exact HandSPX.exc_get I1.kIn J T.ga T.gg T.exC (PySem.W.findObj_own T.hdC hno rfl (by rw [look, hu])) (handed_of ru) ⟨v, H1, I1.tok _, ru, q⟩
/-! ### an exception that is made and kept as a value -/
/-- C(), C an own exception class without an own __init__ -/
theorem pmk_own0 {X : Cx} {C : Addr} {bmB : List Value} {B newId initId : String} {x : Str} {p pos : Pos} (F : ExcBaseFacts B newId initId bmB) (q : PySem.W.excIn X.K C bmB newId = true) (gC : X.mg x = some (.ref C)) (kC : PySem.W.keepIn X.K (.ref C) = true)
    (r : Raises X (.ref C)) (hg : Gl X x) (hdb : (x == ("__debug__" : Str)) = false := by decide) : PMk X (.Call (.Name x p) [] [] pos) (fun _ H Q => Q (.ref C) none H) := by
  intro pins s σ H Q I told
  refine wpAny_Call_Name_kw (ld_glob I hg gC ?_ hdb)
  refine PySem.W.callWith_K0 I.kIn kC ?_
  change wpAny _ _ (call (.ref C) []) _ _ _
  obtain ⟨hp, g, dr, tk, os⟩ := s
  obtain ⟨_, _, _, _, _, _, _, _, _, _, _, _, _, _, _, _, _, at0, names, noInit, tail⟩ := exc_obj I.kIn q
  refine wpAny_call_exc_subT F tail at0 names noInit (fun h1 e made => ?_) (by change 0 ≤ sizeLine; omega)
  exact mk_of I made r told (I.hok.gone made.new)
/-! ### isinstance of a tracked exception, whatever its dict -/
structure XcC (K : PySem.W.Frag) (C : Addr) : Prop extends ExcC K C where
  kC : PySem.W.keepIn K (.ref C) = true
  tyC : PySem.W.typeIn K (.ref C) = some (.type "type")
theorem XcC.xf {K : PySem.W.Frag} {C : Addr} (c : XcC K C) : XfC K C := ⟨c.hg, c.hk, c.hs, c.hd⟩
theorem XcC.exm {K : PySem.W.Frag} {C : Addr} {cls : Value} {b : Bool} (c : XcC K C) (h : PySem.W.subIn K cls (.ref C) = some b) : PySem.W.exmOne K cls (.ref C) = some b := PySem.W.exm_ref c.hs c.hd c.tyC h
theorem XcC.kit {K : PySem.W.Frag} {C D : Addr} {b : Bool} (c : XcC K C) (h : PySem.W.subIn K (.ref D) (.ref C) = some b) (hb : D = C → b = true) : PySem.W.kitOne K (.ref D) (.ref C) = some b := by
  unfold PySem.W.kitOne
  by_cases e : ((Value.ref D == Value.ref C) = true)
  · rw [if_pos e, hb (Value.ref.inj (beq_iff_eq.mp e))]
  · rw [if_neg e]
    obtain ⟨cd, q, _⟩ := PySem.W.any_some c.hd
    have e2 : ((PySem.W.clsIn K C).isSome && PySem.W.typeIn K (.ref C) == some (.type "type")) = true := by rw [q, c.tyC] <;> rfl
    change (if ((PySem.W.clsIn K C).isSome && PySem.W.typeIn K (.ref C) == some (.type "type")) = true then PySem.W.subIn K (.ref D) (.ref C) else none) = some b
    rw [if_pos e2]
    exact h
section
open PySem.W PySem.Calls PyProof.Rows
variable {prog : Program} {w : World} {A : Around} {E : Value → Shared → Prop} {s : Shared} {K : Frag} {x D : Addr} {ox : Obj} {od : Option Obj}
theorem cls_found (c : ExcC K D) : findObj K D od "__class__" = some (.bind (.builtin "getset_descriptor.__get__") (.builtin "object.__class__")) := by
  obtain ⟨cd, e, _⟩ := any_some c.hd
  unfold findObj
  rw [e, Option.bind_some, c.ha, Option.bind_some]
  simp [c.hn, c.ht]
theorem cls_asked {Q : Option Value → Shared → Prop} (c : ExcC K D) (X : K.In s.heap) (I : InstAt s.heap x ox D od) (q : Q (some (.ref D)) { s with toks := s.toks + 1 }) : wpAny (model prog w) A (getAttr? (.ref x) "__class__") Q E s := by
  obtain ⟨h0, g, d, t, os⟩ := s
  have ty := I.type (M := model prog w)
  have by1 := looks_findIn (M := model prog w) X c.hg
  have by2 := looks_findIn (M := model prog w) X c.hk
  have by3 := looks_find (M := model prog w) X I (cls_found c)
  have isE : Looks (model prog w) h0 (isInstance (.ref x) (.type "BaseException")) true := ty.andThen (looks_subIn X c.hs)
  have n1 : (Value.builtin "BaseException.__getattribute__" == Value.builtin "object.__getattribute__") = false := by decide +kernel
  have n2 : (onTheHeap (Value.ref D) && Value.builtin "BaseException.__getattribute__" == Value.builtin "object.__getattribute__") = false := by rw [n1]; rfl
  have n3 : (false && onTheHeap (Value.builtin "BaseException.__getattribute__")) = false := rfl
  unfold getAttr? getAttrBy? getAttrBy
  refine wpAny_bind (wpAny_mkText (wpAny_bind (wpAny_attempt (wpAny_holding (wpAny_bind (ty.at (wpAny_bind (by1.at ?_))))))))
  change wpAny _ _ (if (onTheHeap (Value.ref D) && Value.builtin "BaseException.__getattribute__" == Value.builtin "object.__getattribute__") = true then _ else _) _ _ _
  rw [n2, if_neg (by decide)]
  unfold getAttrByItsOwn hookBefore
  refine wpAny_bind ?_
  have on : onTheHeap (Value.ref D) = true := rfl
  rw [if_pos on]
  refine by2.at ?_
  refine wpAny_bind (wpAny_attempt (wpAny_holding ?_))
  unfold callGetattribute
  rw [n3, if_neg (by decide)]
  unfold boundAndCalled
  rw [PySem.F.excAttr_ValueError.ga.bind (.ref x)]
  refine wpAny_bind (wpAny_pure ?_)
  change wpAny _ _ (call (.builtin "BaseException.__getattribute__") [.ref x, .str "__class__" t]) _ _ _
  refine wpAny_call (codeAny_call_builtin PySem.F.excAttr_ValueError.ga.plain PySem.F.entry_bexc_ga ?_)
  refine @check_slot (model prog w) _ _ ⟨h0, g, d, t + 1, os⟩ "BaseException.__getattribute__" "BaseException" "__getattribute__" (.ref x) [.str "__class__" t] [] _ (by decide +kernel) (by decide +kernel) isE (PySem.F.args_bexc_ga (.ref x) (.str "__class__" t)) ?_
  unfold Builtin.«object.__getattribute__»
  refine wpAny_bind (wpAny_of_eq (a := ((Value.ref x : Value), [Value.str "__class__" t])) (by first | rfl | (simp only [slotArgs]; rfl)) ?_)
  refine wpAny_bind (wpAny_pure (wpAny_bind (ty.at (wpAny_bind (by3.at ?_)))))
  change wpAny _ _ (holding [Value.builtin "object.__class__"] (call (.builtin "getset_descriptor.__get__") [.builtin "object.__class__", .ref x, .ref D]) >>= ret) _ _ _
  refine wpAny_bind (wpAny_holding (wpAny_call (class_get (s := ⟨h0, g, d, t + 1, os⟩) (ox := ox) (od := od) X I c.hm ?_)))
  refine wpAny_pure ?_
  change wpAny _ _ (handedOut (.ref D)) _ _ _
  rw [handedOut_of (v := .ref D) rfl]
  first | exact wpAny_pure (wpAny_pure q) | exact wpAny_pure q | exact wpAny_pure (wpAny_bind (wpAny_pure (wpAny_pure q)))
theorem kitx_xc (c : ExcC K D) : KitX K (.ref x) (.ref D) (fun h => InstAt h x ox D od) where
  ty := fun _ _ _ I => I.type
  it := fun _ _ X _ => by
    obtain ⟨_, at0, _⟩ := any_some c.hd
    unfold clsIn at at0
    split at at0
    · rename_i ho
      intro _ _ _ _ k q
      unfold isType loadHead
      exact wpAny_bind (wpAny_loadPart (k _ _ (X _ _ ho)) (wpAny_pure q))
    · cases at0
  ne := fun h tp _ _ _ _ X at1 => by
    obtain ⟨_, at0, _⟩ := any_some c.hd
    refine Bool.eq_false_iff.mpr fun q => ?_
    have e : D = tp := Value.ref.inj (beq_iff_eq.mp q)
    subst e
    unfold clsIn at at0
    split at at0
    · rename_i ho
      cases (X _ _ ho).symm.trans at1
    · cases at0
  ca := fun X I k => cls_asked c X I k
end
/-- at a: an exception of the class at D; d: its dict -/
def XcAt (H : Hp) (a D : Addr) (d : Option Addr) : Prop := H a = some (XcO (.ref D) d a) ∧ ∀ dd, d = some dd → ∃ fs, H dd = some (.xd fs)
theorem XcAt.ex {H H' : Hp} {a D : Addr} {d : Option Addr} (h : XcAt H a D d) (e : Ex H H') : XcAt H' a D d := ⟨e _ _ h.1, fun dd hd => by
  obtain ⟨fs, q⟩ := h.2 dd hd
  exact ⟨fs, e _ _ q⟩⟩
theorem inst_xc {X : Cx} {pins : List (Addr × Obj)} {σ : L2.St} {H : Hp} {s : Shared} {a D : Addr} {d : Option Addr} (I : Inv X pins σ H s) (h : XcAt H a D d) : ∃ (ob : Obj) (od : Option Obj), PySem.W.InstAt s.heap a ob D od := by
  obtain ⟨⟨ob, vs, at1, z, dt⟩, _⟩ := I.hok a _ h.1
  have nc : PySem.W.notCls ob = true := by unfold PySem.W.notCls; rw [dt] <;> rfl
  cases d with
  | none => exact ⟨ob, none, at1, z.1, nc, by rw [z.2]; trivial⟩
  | some dd =>
    obtain ⟨fs, hd⟩ := h.2 dd rfl
    obtain ⟨mA, ns, hr⟩ := I.hok dd _ hd
    obtain ⟨od, ho, look⟩ := lookIn_ns ns
    exact ⟨ob, some od, at1, z.1, nc, z.2 ▸ ho⟩
def rIsX (K : PySem.W.Frag) : List V → Hp → VK → Prop := fun xs H Q => ∃ (a D : Addr) (d : Option Addr) (c : V) (u : Value) (b : Bool), xs = [.ref a, c] ∧ XcAt H a D d ∧ XcC K D ∧ ClsV c u ∧ PySem.W.kitOne K (.ref D) u = some b ∧ Q (.bl b) H
def rIsXT (K : PySem.W.Frag) : List V → Hp → VK → Prop := fun xs H Q => ∃ (a D tp : Addr) (d : Option Addr) (cs : List V) (us : List Value) (b : Bool), xs = [.ref a, .ref tp] ∧ XcAt H a D d ∧ XcC K D ∧ H tp = some (.tup cs) ∧ Paired ClsV cs us ∧ PySem.W.kitAny K (.ref D) us = some b ∧ Q (.bl b) H
section
variable {X : Cx} {K : PySem.W.Frag}
theorem isxK (h : X.K = K) : CallR X (.builtin "isinstance") (rIsX K) := by
  subst h
  intro pins s σ H xs us Q I r told
  obtain ⟨a, D, d, c, u, b, rfl, hx, hc, k, e, q⟩ := told
  obtain ⟨u1, u2, rfl, r1, r2⟩ := vals2 r
  have e2 := k.eq r2
  subst e2
  cases (show u1 = Value.ref a from r1)
  obtain ⟨ob, od, J⟩ := inst_xc I hx
  exact PySem.W.kia_one (kitx_xc hc.toExcC) I.kIn J e (fun z => nomatch z) fun tk => ⟨.bl b, H, I.tok tk, rfl, q⟩
theorem isxTK (h : X.K = K) : CallR X (.builtin "isinstance") (rIsXT K) := by
  subst h
  intro pins s σ H xs us Q I r told
  obtain ⟨a, D, tp, d, cs, ws, b, rfl, hx, hc, hT, k, e, q⟩ := told
  obtain ⟨u1, u2, rfl, r1, r2⟩ := vals2 r
  cases (show u1 = Value.ref a from r1)
  cases (show u2 = Value.ref tp from r2)
  obtain ⟨ob, od, J⟩ := inst_xc I hx
  obtain ⟨_, its, rv, o, h1, h2, n, h3⟩ := (show ObjOk X.prog X.w H s.heap tp (.tup cs) from I.hok tp _ hT)
  have e3 := ClsV.all k rv
  subst e3
  obtain ⟨oc, od', dt, sl⟩ := o
  simp only at h2 h3
  subst h2 h3
  exact PySem.W.kia_tup (kitx_xc hc.toExcC) I.kIn J h1 e (fun z => nomatch z) fun tk => ⟨.bl b, H, I.tok tk, rfl, q⟩
end
theorem kit_b {K : PySem.W.Frag} {D : Addr} {T : String} {b : Bool} (m : PySem.W.kitMeta T = true) (h : PySem.W.subIn K (.ref D) (.type T) = some b) : PySem.W.kitOne K (.ref D) (.type T) = some b := by
  unfold PySem.W.kitOne
  have ne : ¬ ((Value.ref D == Value.type T) = true) := fun z => by cases beq_iff_eq.mp z
  rw [if_neg ne]
  change (if PySem.W.kitMeta T = true then PySem.W.subIn K (.ref D) (.type T) else none) = some b
  rw [if_pos m]
  exact h
/-! ### __init__ of an exception that keeps what it is given -/
def spXInit (K : PySem.W.Frag) (f : Str) : Sp := fun vs H Q _ => ∃ (a C : Addr) (v : V), vs = [.ref a, v] ∧ OexC K C ∧ PySem.W.findIn K (.ref C) f = some none ∧ H a = some (exo a C none) ∧ ∀ dx, H dx = none → dx ≠ a → Q .non (upd (upd H dx (exd dx [(f, v)])) a (exo a C (some dx)))
end NL
/-! z[::-1] of a text; an exception with a field, made -/
namespace NL
open PySem PySem.Spec PyProof.Rows L2 Evl
/-- C(v), C keeping what it is given: behind its __init__ -/
theorem mkx {K : PySem.W.Frag} {C : Addr} {f : Str} {v : V} {H : Hp} {Q : XK} (c : OexC K C) (no : PySem.W.findIn K (.ref C) f = some none) (q : ∀ d, H d = none → Q (.ref C) (some d) (upd H d (.xd [(f, v)]))) :
    [v].length ≤ 1000 ∧ ∀ a, H a = none → spXInit K f (.ref a :: ([v] ++ [])) (upd H a (exo a C none))
      (fun u H2 => u = .non ∧ ∃ (d : Addr) (fs : List (Str × V)), H2 a = some (exo a C (some d)) ∧ H2 d = some (exd d fs) ∧ H d = none ∧ Q (.ref C) (some d) (upd (del H2 a) d (.xd fs))) (fun _ _ _ => False) := by
  refine ⟨by simp, fun a na => ⟨a, C, v, rfl, c, no, upd_same, fun dx nd ne => ⟨rfl, dx, [(f, v)], upd_same, ?_, ?_, ?_⟩⟩⟩
  · rw [upd_ne ne]
    exact upd_same
  · rw [upd_ne ne] at nd
    exact nd
  · rw [upd_ne ne] at nd
    have e : upd (del (upd (upd (upd H a (exo a C none)) dx (exd dx [(f, v)])) a (exo a C (some dx))) a) dx (.xd [(f, v)]) = upd H dx (.xd [(f, v)]) := by
      funext b
      by_cases hb : b = dx
      · subst hb
        rw [upd_same, upd_same]
      · rw [upd_ne hb, upd_ne hb]
        by_cases ha : b = a
        · subst ha
          rw [del_same, na]
        · rw [del_ne ha, upd_ne ha, upd_ne hb, upd_ne ha]
    rw [e]
    exact q dx nd
end NL
/-! a step, as a plain function: hands and groups by their names -/
namespace NL
open PySem L2 Evl
inductive How where
  | out | loose | waits | within
deriving DecidableEq
def How.str : How → Str
  | .out => "out" | .loose => "loose" | .waits => "waits" | .within => "within"
structure HR where
  row : Int
  last : Int
  how : How
  looks : Option Int
deriving DecidableEq
structure GR where
  holder : Option Str
  count : Int
  places : List (Str × Bool)
deriving DecidableEq
inductive Row where
  | take (l : Option Int) | tri | let_ | say (n : Int) | goto (n : Int) | iff (a n : Int)
deriving DecidableEq
section
variable {α : Type}
def getN : List (Str × α) → Str → Option α
  | [], _ => none
  | (k, v) :: r, n => if k = n then some v else getN r n
def setN : List (Str × α) → Str → α → List (Str × α)
  | [], _, _ => []
  | (k, v) :: r, n, w => (k, if k = n then w else v) :: setN r n w
theorem getN_set : ∀ (xs : List (Str × α)) (n m : Str) (w : α), getN (setN xs n w) m = if m = n then (getN xs n).map (fun _ => w) else getN xs m
  | [], n, m, w => by simp [getN, setN]
  | (k, v) :: r, n, m, w => by
    have ih := getN_set r n m w
    simp only [setN, getN]
    by_cases h1 : k = m
    · subst h1
      by_cases h2 : k = n
      · subst h2
        simp
      · simp [h2]
    · by_cases h2 : m = n
      · subst h2
        simp [h1, ih]
      · simp [h1, h2, ih]
theorem getN_same {xs : List (Str × α)} {n : Str} {v w : α} (h : getN xs n = some v) : getN (setN xs n w) n = some w := by rw [getN_set, if_pos rfl, h]; rfl
theorem getN_other {xs : List (Str × α)} {n m : Str} {w : α} (h : m ≠ n) : getN (setN xs n w) m = getN xs m := by rw [getN_set, if_neg h]
theorem keys_set : ∀ (xs : List (Str × α)) (n : Str) (w : α), (setN xs n w).map (·.1) = xs.map (·.1)
  | [], _, _ => rfl
  | (k, v) :: r, n, w => by simp only [setN, List.map_cons, keys_set r]
theorem len_set (xs : List (Str × α)) (n : Str) (w : α) : (setN xs n w).length = xs.length := by
  have := congrArg List.length (keys_set xs n w)
  simpa using this
end
abbrev e2 (a : String) (x : Str) : PyData := .tuple [.str a, .str x]
abbrev e3 (a : String) (x y : Str) : PyData := .tuple [.str a, .str x, .str y]
abbrev e4 (a : String) (x y z : Str) : PyData := .tuple [.str a, .str x, .str y, .str z]
structure DS where
  hs : List (Str × HR)
  gs : List (Str × GR)
  told : List PyData
  firsts : List Str
structure Sta where
  paths : List (Str × List Str)
  bounds : List (Str × Int)
  progs : List (Str × List Row)
def DS.loose (d : DS) (m : Str) : Bool := match getN d.hs m with
  | some r => decide (r.how = .loose)
  | none => false
structure SH where
  hs : List (Str × HR)
  gs : List (Str × GR)
deriving DecidableEq
end NL
/-! hands and groups in the heap; a draft -/
namespace NL
open PySem L2 Evl
def optI : Option Int → V
  | none => .non
  | some i => .int i
def optS : Option Str → V
  | none => .non
  | some s => .str s
def HV (K : PySem.W.Frag) (H : Hp) (v : V) (r : HR) : Prop := ∃ a, v = .ref a ∧ SqT K H a [.int r.row, .int r.last, .str r.how.str, optI r.looks]
def PlV (K : PySem.W.Frag) (H : Hp) (v : V) (p : Str × Bool) : Prop := ∃ a, v = .ref a ∧ SqT K H a [.str p.1, .bl p.2]
def PlsV (K : PySem.W.Frag) (H : Hp) (v : V) (ps : List (Str × Bool)) : Prop := ∃ a xs, v = .ref a ∧ SqT K H a xs ∧ Paired (PlV K H) xs ps
def GV (K : PySem.W.Frag) (H : Hp) (v : V) (g : GR) : Prop := ∃ a u, v = .ref a ∧ SqT K H a [optS g.holder, .int g.count, u] ∧ PlsV K H u g.places
def EvV (K : PySem.W.Frag) (H : Hp) (v : V) (d : PyData) : Prop := Dy K H v d ∧ tupOnly d = true
def PaV (K : PySem.W.Frag) (H : Hp) (v : V) (p : List Str) : Prop := ∃ a, v = .ref a ∧ SqT K H a (p.map V.str)
def Row.items : Row → List V
  | .take l => [.str "take", optI l]
  | .tri => [.str "try"]
  | .let_ => [.str "let"]
  | .say n => [.str "say", .int n]
  | .goto n => [.str "goto", .int n]
  | .iff a n => [.str "if", .int a, .int n]
def RowV (K : PySem.W.Frag) (H : Hp) (v : V) (r : Row) : Prop := ∃ a, v = .ref a ∧ SqT K H a r.items
def PrV (K : PySem.W.Frag) (H : Hp) (v : V) (rs : List Row) : Prop := ∃ a xs, v = .ref a ∧ SqT K H a xs ∧ Paired (RowV K H) xs rs
def BdV (v : V) (b : Int) : Prop := v = .int b
section
variable {K : PySem.W.Frag} {H H' : Hp} {v : V}
theorem paired_mono {α β : Type} {R S : α → β → Prop} (h : ∀ a b, R a b → S a b) : ∀ {xs : List α} {ys : List β}, Paired R xs ys → Paired S xs ys
  | _, _, .nil => .nil
  | _, _, .cons a t => .cons (h _ _ a) (paired_mono h t)
theorem paired_len {α β : Type} {R : α → β → Prop} : ∀ {xs : List α} {ys : List β}, Paired R xs ys → xs.length = ys.length
  | _, _, .nil => rfl
  | _, _, .cons _ t => by rw [List.length_cons, List.length_cons, paired_len t]
theorem HV.st {r : HR} (h : HV K H v r) (s : ST K H H') : HV K H' v r := by
  obtain ⟨a, e, t⟩ := h
  exact ⟨a, e, s _ _ t⟩
theorem PlV.st {p : Str × Bool} (h : PlV K H v p) (s : ST K H H') : PlV K H' v p := by
  obtain ⟨a, e, t⟩ := h
  exact ⟨a, e, s _ _ t⟩
theorem PlsV.st {ps : List (Str × Bool)} (h : PlsV K H v ps) (s : ST K H H') : PlsV K H' v ps := by
  obtain ⟨a, xs, e, t, q⟩ := h
  exact ⟨a, xs, e, s _ _ t, paired_mono (fun _ _ z => z.st s) q⟩
theorem GV.st {g : GR} (h : GV K H v g) (s : ST K H H') : GV K H' v g := by
  obtain ⟨a, u, e, t, q⟩ := h
  exact ⟨a, u, e, s _ _ t, q.st s⟩
theorem EvV.st {d : PyData} (h : EvV K H v d) (s : ST K H H') : EvV K H' v d := ⟨dy_st s d v h.2 h.1, h.2⟩
theorem PaV.st {p : List Str} (h : PaV K H v p) (s : ST K H H') : PaV K H' v p := by
  obtain ⟨a, e, t⟩ := h
  exact ⟨a, e, s _ _ t⟩
theorem RowV.st {r : Row} (h : RowV K H v r) (s : ST K H H') : RowV K H' v r := by
  obtain ⟨a, e, t⟩ := h
  exact ⟨a, e, s _ _ t⟩
theorem PrV.st {rs : List Row} (h : PrV K H v rs) (s : ST K H H') : PrV K H' v rs := by
  obtain ⟨a, xs, e, t, q⟩ := h
  exact ⟨a, xs, e, s _ _ t, paired_mono (fun _ _ z => z.st s) q⟩
end
/-! ### dicts by names -/
section
variable {α : Type} {R : V → α → Prop}
def Kr (R : V → α → Prop) (kv : Key × V) (x : Str × α) : Prop := kv.1 = .inr x.1 ∧ R kv.2 x.2
def Dm (R : V → α → Prop) (H : Hp) (d : Addr) (xs : List (Str × α)) : Prop := ∃ kvs, H d = some (.dK kvs) ∧ Paired (Kr R) kvs xs ∧ xs.length ≤ 1000
theorem kr_val (n : Str) : ∀ {kvs : List (Key × V)} {xs : List (Str × α)}, Paired (Kr R) kvs xs → (valV kvs (.inr n) = none ∧ getN xs n = none) ∨ ∃ v x, valV kvs (.inr n) = some v ∧ getN xs n = some x ∧ R v x
  | _, _, .nil => Or.inl ⟨rfl, rfl⟩
  | _, _, .cons (a := kv) (b := x) h t => by
    obtain ⟨n', d⟩ := x
    by_cases e : n' = n
    · exact Or.inr ⟨kv.2, d, valV_pos (h.1.trans (by rw [e])), by simp [getN, e], h.2⟩
    · have ne : ¬ kv.1 = .inr n := fun z => e (by rw [h.1] at z; exact Sum.inr.inj z)
      rw [valV_neg ne]
      have z := kr_val n t
      simp only [getN, if_neg e]
      exact z
theorem kr_any {n : Str} : ∀ {kvs : List (Key × V)} {xs : List (Str × α)}, Paired (Kr R) kvs xs → (getN xs n).isSome = true → (kvs.any fun kv => decide (kv.1 = .inr n)) = true
  | _, _, .nil, h => by cases h
  | _, _, .cons (a := kv) (b := x) h t, hs => by
    obtain ⟨n', d⟩ := x
    by_cases e : n' = n
    · have : kv.1 = .inr n := h.1.trans (by rw [e])
      simp [this]
    · simp only [getN, if_neg e] at hs
      rw [List.any_cons, kr_any t hs, Bool.or_true]
theorem kr_put {n : Str} {v : V} {w : α} (hv : R v w) : ∀ {kvs : List (Key × V)} {xs : List (Str × α)}, Paired (Kr R) kvs xs → Paired (Kr R) (kvs.map fun kv => if kv.1 = .inr n then (kv.1, v) else kv) (setN xs n w)
  | _, _, .nil => .nil
  | _, _, .cons (a := kv) (b := x) h t => by
    obtain ⟨n', d⟩ := x
    refine .cons ?_ (kr_put hv t)
    show Kr R (if kv.1 = .inr n then (kv.1, v) else kv) (n', if n' = n then w else d)
    by_cases e : n' = n
    · have : kv.1 = .inr n := h.1.trans (by rw [e])
      rw [if_pos this, if_pos e]
      exact ⟨h.1, hv⟩
    · have ne : ¬ kv.1 = .inr n := fun z => e (by rw [h.1] at z; exact Sum.inr.inj z)
      rw [if_neg ne, if_neg e]
      exact h
theorem Dm.put {H : Hp} {d : Addr} {xs : List (Str × α)} {n : Str} {x w : α} {v : V} (h : Dm R H d xs) (hn : getN xs n = some x) (hv : R v w) : ∃ H', DPut H d (.str n) v H' ∧ (∀ a, a ≠ d → H' a = H a) ∧ Dm R H' d (setN xs n w) := by
  obtain ⟨kvs, h1, h2, h3⟩ := h
  have any := kr_any (n := n) h2 (by rw [hn]; rfl)
  have len : kvs.length < sizeLine := sz_lt (by rw [paired_len h2]; omega)
  refine ⟨_, DPut.k (k := .inr n) h1 len, fun a ha => upd_ne ha, _, upd_same, ?_, by rw [len_set]; exact h3⟩
  unfold putK
  rw [if_pos any]
  exact kr_put hv h2
theorem Dm.get {H : Hp} {d : Addr} {xs : List (Str × α)} {n : Str} {x : α} (h : Dm R H d xs) (hn : getN xs n = some x) : ∃ v, DGet H d (.str n) (some v) ∧ R v x := by
  obtain ⟨kvs, h1, h2, h3⟩ := h
  rcases kr_val n h2 with ⟨_, b⟩ | ⟨v, y, a, b, r⟩
  · rw [hn] at b
    cases b
  · rw [hn] at b
    cases b
    exact ⟨v, a ▸ DGet.k (k := .inr n) h1, r⟩
theorem Dm.st {S : V → α → Prop} {H H' : Hp} {d : Addr} {xs : List (Str × α)} (h : Dm R H d xs) (e : ∀ o, H d = some o → H' d = some o) (s : ∀ v x, R v x → S v x) : Dm S H' d xs := by
  obtain ⟨kvs, h1, h2, h3⟩ := h
  exact ⟨kvs, e _ h1, paired_mono (fun _ _ z => ⟨z.1, s _ _ z.2⟩) h2, h3⟩
theorem Dm.dk {H : Hp} {d : Addr} {xs : List (Str × α)} (h : Dm R H d xs) : ∃ kvs, H d = some (.dK kvs) := ⟨_, h.choose_spec.1⟩
end
/-! ### a draft -/
structure DrA where
  q : Addr
  dx : Addr
  pa : Addr
  bo : Addr
  pr : Addr
  hd : Addr
  gd : Addr
  tl : Addr
  fl : Addr
def DrA.fields (A : DrA) : List (Str × V) := [("paths", .ref A.pa), ("bounds", .ref A.bo), ("programs", .ref A.pr), ("hands", .ref A.hd), ("groups", .ref A.gd), ("told", .ref A.tl), ("firsts", .ref A.fl)]
structure DrAt (K : PySem.W.Frag) (C : Addr) (H : Hp) (A : DrA) (d : DS) : Prop where
  ob : H A.q = some (.ins C A.dx A.fields)
  hs : Dm (HV K H) H A.hd d.hs
  gs : Dm (GV K H) H A.gd d.gs
  tl : ∃ vs, H A.tl = some (.lst vs) ∧ Paired (EvV K H) vs d.told ∧ vs.length ≤ 90000
  fl : H A.fl = some (.lst (d.firsts.map V.str)) ∧ d.firsts.length ≤ 90000
  nd : A.hd ≠ A.gd ∧ A.tl ≠ A.fl
/-- what isn't the draft's own stays -/
def K4 (A : DrA) (H H' : Hp) : Prop := ∀ a o, a ≠ A.hd → a ≠ A.gd → a ≠ A.tl → a ≠ A.fl → H a = some o → H' a = some o
theorem K4.refl (A : DrA) (H : Hp) : K4 A H H := fun _ _ _ _ _ _ h => h
theorem K4.trans {A : DrA} {H H1 H2 : Hp} (a : K4 A H H1) (b : K4 A H1 H2) : K4 A H H2 := fun x o n1 n2 n3 n4 e => b x o n1 n2 n3 n4 (a x o n1 n2 n3 n4 e)
theorem K4.ex {A : DrA} {H H1 : Hp} (e : Ex H H1) : K4 A H H1 := fun x o _ _ _ _ h => e x o h
section
variable {K : PySem.W.Frag} {C : Addr} {H H' : Hp} {A : DrA} {d : DS} {s : Sta}
theorem DrAt.off (h : DrAt K C H A d) {a : Addr} {o : HO} (e : H a = some o) (n1 : ∀ k, o ≠ .dK k) (n2 : ∀ l, o ≠ .lst l) : a ≠ A.hd ∧ a ≠ A.gd ∧ a ≠ A.tl ∧ a ≠ A.fl := by
  obtain ⟨k1, z1⟩ := h.hs.dk
  obtain ⟨k2, z2⟩ := h.gs.dk
  obtain ⟨vs, z3, _⟩ := h.tl
  have z4 := h.fl.1
  refine ⟨fun z => ?_, fun z => ?_, fun z => ?_, fun z => ?_⟩
  · subst z
    rw [z1] at e
    cases e
    exact n1 _ rfl
  · subst z
    rw [z2] at e
    cases e
    exact n1 _ rfl
  · subst z
    rw [z3] at e
    cases e
    exact n2 _ rfl
  · subst z
    rw [z4] at e
    cases e
    exact n2 _ rfl
theorem DrAt.ex (h : DrAt K C H A d) (e : Ex H H') : DrAt K C H' A d := by
  have st : ST K H H' := ST.ex e
  obtain ⟨vs, t1, t2, t3⟩ := h.tl
  exact ⟨e _ _ h.ob, h.hs.st (fun _ z => e _ _ z) fun _ _ z => z.st st, h.gs.st (fun _ z => e _ _ z) fun _ _ z => z.st st, ⟨vs, e _ _ t1, paired_mono (fun _ _ z => z.st st) t2, t3⟩, ⟨e _ _ h.fl.1, h.fl.2⟩, h.nd⟩
end
end NL
/-! statements about a draft -/
namespace NL
open PySem L2 Evl
end NL
/-! a house in the heap -/
namespace NL
open PySem L2 Evl
structure HoA where
  p : Addr
  dx : Addr
  pa : Addr
  bo : Addr
  pr : Addr
  hd : Addr
  gd : Addr
  pv : V
  bv : V
def HoA.fields (B : HoA) : List (Str × V) := [("plan", B.pv), ("book", B.bv), ("paths", .ref B.pa), ("bounds", .ref B.bo), ("programs", .ref B.pr), ("hands", .ref B.hd), ("groups", .ref B.gd)]
structure HoAt (K : PySem.W.Frag) (C : Addr) (H : Hp) (B : HoA) (s : Sta) (x : SH) : Prop where
  ob : H B.p = some (.ins C B.dx B.fields)
  pa : Dm (PaV K H) H B.pa s.paths
  bo : Dm BdV H B.bo s.bounds
  pr : Dm (PrV K H) H B.pr s.progs
  hs : Dm (HV K H) H B.hd x.hs
  gs : Dm (GV K H) H B.gd x.gs
section
variable {K : PySem.W.Frag} {C : Addr} {H H' : Hp} {B : HoA} {s : Sta} {x : SH}
/-- all but the house's own place stays -/
theorem st_ins {p dx : Addr} {fs : List (Str × V)} (h : H p = some (.ins C dx fs)) (k : Kp p p H H') : ST K H H' := fun a xs t => by
  have no : ∀ {u : HO}, H a = some u → (∀ C' dx' fs', u ≠ .ins C' dx' fs') → H' a = some u := fun {u} z n => by
    have : a ≠ p := fun y => by
      subst y
      rw [h] at z
      cases z
      exact n _ _ _ rfl
    exact k _ _ this this z
  rcases t with (z | ⟨ob, z⟩) | z
  · exact Or.inl (Or.inl (no z fun _ _ _ y => by cases y))
  · exact Or.inl (Or.inr ⟨ob, no z fun _ _ _ y => by cases y⟩)
  · exact Or.inr z
theorem HoAt.ex (h : HoAt K C H B s x) (e : Ex H H') : HoAt K C H' B s x := by
  have st : ST K H H' := ST.ex e
  exact ⟨e _ _ h.ob, h.pa.st (fun _ z => e _ _ z) fun _ _ z => z.st st, h.bo.st (fun _ z => e _ _ z) fun _ _ z => z, h.pr.st (fun _ z => e _ _ z) fun _ _ z => z.st st, h.hs.st (fun _ z => e _ _ z) fun _ _ z => z.st st, h.gs.st (fun _ z => e _ _ z) fun _ _ z => z.st st⟩
theorem Dm.ne {α : Type} {R : V → α → Prop} {d p dx : Addr} {xs : List (Str × α)} {fs : List (Str × V)} (h : Dm R H d xs) (hp : H p = some (.ins C dx fs)) : d ≠ p := fun z => by
  obtain ⟨kvs, e⟩ := h.dk
  rw [z, hp] at e
  cases e
/-- another object changes -/
theorem HoAt.kp (h : HoAt K C H B s x) {q Cq dq : Addr} {fq : List (Str × V)} (hq : H q = some (.ins Cq dq fq)) (ne : B.p ≠ q) (k : Kp q q H H') : HoAt K C H' B s x := by
  have st : ST K H H' := st_ins hq k
  have go : ∀ {a : Addr}, a ≠ q → ∀ o, H a = some o → H' a = some o := fun n o z => k _ _ n n z
  exact ⟨go ne _ h.ob, h.pa.st (go (h.pa.ne hq)) fun _ _ z => z.st st, h.bo.st (go (h.bo.ne hq)) fun _ _ z => z, h.pr.st (go (h.pr.ne hq)) fun _ _ z => z.st st, h.hs.st (go (h.hs.ne hq)) fun _ _ z => z.st st, h.gs.st (go (h.gs.ne hq)) fun _ _ z => z.st st⟩
end
theorem Kp.ins {H H' : Hp} {p : Addr} {o : HO} (k : Kp p p H H') : Kp p p H (upd H' p o) := Kp.put k (Or.inl rfl)
def EvsV (K : PySem.W.Frag) (H : Hp) (v : V) (es : List PyData) : Prop := ∃ t vs, v = .ref t ∧ H t = some (.tup vs) ∧ Paired (EvV K H) vs es
end NL
/-! fields, dicts walked and made -/
namespace NL
open PySem L2 Evl
theorem ST.dk {K : PySem.W.Frag} {H : Hp} {p : Addr} {ys : List (Key × V)} {o : HO} (h : H p = some (.dK ys)) : ST K H (upd H p o) := fun a xs s => by
  have no : ∀ {u : HO}, H a = some u → (∀ zs, u ≠ .dK zs) → upd H p o a = some u := fun {u} z n => by
    rw [upd_ne (fun y => by subst y; rw [h] at z; cases z; exact n _ rfl)]
    exact z
  rcases s with (z | ⟨ob, z⟩) | z
  · exact Or.inl (Or.inl (no z fun _ y => by cases y))
  · exact Or.inl (Or.inr ⟨ob, no z fun _ y => by cases y⟩)
  · exact Or.inr z
/-! ### a house asked -/
end NL
/-! each one in one place: hands and groups by their names, as functions -/
namespace NL
open PySem L2 Evl
abbrev HF := Str → Option How
abbrev GF := Str → Option (Option Str × List (Str × Bool))
def setF {α : Type} (f : Str → Option α) (n : Str) (v : α) : Str → Option α := fun m => if m = n then some v else f m
theorem setF_same {α : Type} {f : Str → Option α} {n : Str} {v : α} : setF f n v n = some v := if_pos rfl
theorem setF_ne {α : Type} {f : Str → Option α} {n m : Str} {v : α} (h : m ≠ n) : setF f n v m = f m := if_neg h
def up (s : Sta) (m : Str) : Option Str := match getN s.paths m with
  | some (g :: _) => some g
  | _ => none
def act (h : HF) (k : GF) (m : Str) : Prop := (∃ x, h m = some x ∧ x ≠ .out) ∨ ∃ o ps, k m = some (some o, ps)
structure JE (s : Sta) (h : HF) (k : GF) (e : Option Str) : Prop where
  dj : ∀ m x, h m = some x → k m = none
  ac : ∀ m g, up s m = some g → m ≠ g
  hold : ∀ g ps m, k g = some (some m, ps) → up s m = some g ∧ (e ≠ some m → act h k m ∧ h m ≠ some .loose)
  plc : ∀ g o ps m, k g = some (o, ps) → (m, true) ∈ ps → up s m = some g ∧ h m ≠ some .within ∧ (e ≠ some m → act h k m ∧ o ≠ some m)
  one : ∀ g o ps, k g = some (o, ps) → ((ps.filter (·.2)).map (·.1)).Nodup
  bare : ∀ g ps, k g = some (none, ps) → ps = []
  has : ∀ m g o ps, up s m = some g → act h k m → e ≠ some m → k g = some (o, ps) → o = some m ∨ (m, true) ∈ ps
section
variable {s : Sta} {h : HF} {k : GF} {e : Option Str} {m g : Str} {o : Option Str} {ps : List (Str × Bool)}
theorem act_h {n : Str} {y : How} (ne : m ≠ n) : act (setF h n y) k m ↔ act h k m := by unfold act; rw [setF_ne ne]
theorem act_hs {y : How} (hn : k m = none) : act (setF h m y) k m ↔ y ≠ .out := by
  unfold act
  rw [setF_same, hn]
  constructor
  · rintro (⟨x, z, q⟩ | ⟨o', ps', z⟩)
    · cases z
      exact q
    · cases z
  · intro z
    exact Or.inl ⟨y, rfl, z⟩
/-- a hand's how changes, it stays among those that stand or hold -/
theorem JE.how (j : JE s h k none) {x y : How} (hm : h m = some x) (hx : x ≠ .out) (hy : y ≠ .out) (h1 : y = .loose → ∀ g ps, k g ≠ some (some m, ps)) (h2 : y = .within → ∀ g o ps, k g = some (o, ps) → (m, true) ∉ ps) : JE s (setF h m y) k none := by
  have km := j.dj m x hm
  have am : act h k m := Or.inl ⟨x, hm, hx⟩
  have ac : ∀ n, act (setF h m y) k n ↔ act h k n := fun n => by
    by_cases z : n = m
    · subst z
      rw [act_hs km]
      exact ⟨fun _ => am, fun _ => hy⟩
    · exact act_h z
  refine ⟨fun n z hz => ?_, j.ac, fun g ps n hg => ?_, fun g o ps n hg hp => ?_, j.one, j.bare, fun n g o ps hu ha hn hg => j.has n g o ps hu ((ac n).mp ha) hn hg⟩
  · by_cases q : n = m
    · subst q
      exact km
    · rw [setF_ne q] at hz
      exact j.dj n z hz
  · obtain ⟨a, b⟩ := j.hold g ps n hg
    refine ⟨a, fun hn => ⟨(ac n).mpr (b hn).1, ?_⟩⟩
    by_cases q : n = m
    · subst q
      rw [setF_same]
      intro z
      exact h1 (Option.some.inj z) g ps hg
    · rw [setF_ne q]
      exact (b hn).2
  · obtain ⟨a, b, c⟩ := j.plc g o ps n hg hp
    refine ⟨a, ?_, fun hn => ⟨(ac n).mpr (c hn).1, (c hn).2⟩⟩
    by_cases q : n = m
    · subst q
      rw [setF_same]
      intro z
      exact h2 (Option.some.inj z) g o ps hg hp
    · rw [setF_ne q]
      exact b
end
end NL
/-! a step keeps each one in one place, and goes through -/
namespace NL
open PySem L2 Evl
def hv (hs : List (Str × HR)) : HF := fun m => (getN hs m).map HR.how
def gv (gs : List (Str × GR)) : GF := fun g => (getN gs g).map fun r => (r.holder, r.places)
/-! ### a lock given down -/
/-! ### the plan -/
def Locked (k : GF) : Str → List Str → Prop
  | _, [] => True
  | m, g :: p => (∃ ps, k g = some (some m, ps)) ∧ Locked k g p
theorem locked_set {k : GF} {g : Str} {v : Option Str × List (Str × Bool)} : ∀ {p : List Str} {m : Str}, g ∉ p → (Locked (setF k g v) m p ↔ Locked k m p)
  | [], m, _ => Iff.rfl
  | a :: p, m, h => by
    rw [List.mem_cons, not_or] at h
    unfold Locked
    rw [setF_ne (Ne.symm h.1), locked_set h.2]
theorem locked_some {k : GF} : ∀ {p : List Str} {m g : Str}, Locked k m p → g ∈ p → ∃ x ps, k g = some (some x, ps) ∧ x ∈ m :: p
  | a :: p, m, g, h, hg => by
    obtain ⟨⟨ps, h1⟩, h2⟩ := h
    rcases List.mem_cons.mp hg with z | z
    · subst z
      exact ⟨m, ps, h1, List.mem_cons_self⟩
    · obtain ⟨x, qs, e, hx⟩ := locked_some h2 z
      exact ⟨x, qs, e, List.mem_cons_of_mem _ hx⟩
def LK (s : Sta) (w : Str) (h : HF) (k : GF) : Prop := ((∃ ps, k w = some (none, ps)) ∧ ∀ m, h m ≠ some .within) ∨ ∃ m p, h m = some .within ∧ getN s.paths m = some p ∧ Locked k m p ∧ ∀ n, h n = some .within → n = m
structure Core (s : Sta) (w : Str) (h : HF) (k : GF) : Prop where
  je : JE s h k none
  lk : LK s w h k
def RowI (s : Sta) (hs : List (Str × HR)) : Prop := ∀ n r rows, getN hs n = some r → getN s.progs n = some rows → 0 ≤ r.row ∧ r.row ≤ (rows.length : Int) ∧ (r.how = .loose ∨ r.how = .waits → r.row < (rows.length : Int)) ∧ ∀ l, r.looks = some l → 0 ≤ l
theorem RowI.set {s : Sta} {hs : List (Str × HR)} {n : Str} {r r' : HR} (h : RowI s hs) (hn : getN hs n = some r) (hr : ∀ rows, getN s.progs n = some rows → 0 ≤ r'.row ∧ r'.row ≤ (rows.length : Int) ∧ (r'.how = .loose ∨ r'.how = .waits → r'.row < (rows.length : Int)) ∧ ∀ l, r'.looks = some l → 0 ≤ l) : RowI s (setN hs n r') := by
  intro m x rows hm hp
  by_cases e : m = n
  · subst e
    rw [getN_same hn] at hm
    cases hm
    exact hr rows hp
  · rw [getN_other e] at hm
    exact h m x rows hm hp
end NL
/-! a step keeps each one in one place, and goes through: standing -/
namespace NL
open PySem L2 Evl
section
variable {s : Sta} {hk gk : List Str} {w : Str} {h h' : HF} {k k' : GF}
theorem LK.hold {g : Str} {ps : List (Str × Bool)} {v : Option Str × List (Str × Bool)} (x : LK s w h k) (hg : k g = some (none, ps)) (ne : g ≠ w) : LK s w h (setF k g v) := by
  rcases x with ⟨⟨ps, a⟩, b⟩ | ⟨m, p, a, b, c, d⟩
  · exact Or.inl ⟨⟨ps, by rw [setF_ne (Ne.symm ne)]; exact a⟩, b⟩
  · refine Or.inr ⟨m, p, a, b, (locked_set fun z => ?_).mpr c, d⟩
    obtain ⟨y, qs, e, _⟩ := locked_some c z
    rw [hg] at e
    cases e
end
structure WF (s : Sta) (hk gk : List Str) (w : Str) (x : SH) (N : Nat) : Prop where
  ks : x.hs.map (·.1) = hk
  gs : x.gs.map (·.1) = gk
  co : Core s w (hv x.hs) (gv x.gs)
  ri : RowI s x.hs
  ln : ∀ g r, getN x.gs g = some r → r.places.length ≤ N
end NL
/-! a step keeps each one in one place, and goes through: letting go, leaving -/
namespace NL
open PySem L2 Evl
end NL
/-! a step keeps each one in one place, and goes through -/
namespace NL
open PySem L2 Evl
section
variable {s : Sta} {hk gk : List Str} {w : Str}
theorem WF.mono {x : SH} {N M : Nat} (f : WF s hk gk w x N) (h : N ≤ M) : WF s hk gk w x M := ⟨f.ks, f.gs, f.co, f.ri, fun g r hg => Nat.le_trans (f.ln g r hg) h⟩
variable {x : SH} {N : Nat} {h : Str} {r : HR}
end
end NL
/-! a new house: what its plan tells -/
namespace NL
open PySem L2 Evl
def Tr.nm : Tr → Str
  | .hand n => n
  | .grp n _ _ => n
mutual
theorem rows_pos : ∀ (t : Tr) (p : List Str) (r : Rb), r ∈ t.rows p → r.2.2 = p → r.2.1 = none → t = .hand r.1
  | .hand n, p, r, h, _, _ => by
    simp only [Tr.rows, List.mem_singleton] at h
    subst h
    rfl
  | .grp n b ms, p, r, h, e, z => by
    simp only [Tr.rows, List.mem_cons] at h
    rcases h with h | h
    · subst h
      cases z
    · obtain ⟨q, hq⟩ := rowss_long ms (n :: p) r h
      rw [e] at hq
      have := congrArg List.length hq
      rw [List.length_append, List.length_cons] at this
      omega
theorem rowss_long : ∀ (ts : List Tr) (p : List Str) (r : Rb), r ∈ rowss ts p → ∃ q, r.2.2 = q ++ p
  | ts, p, r, h => by
    have h' : plainR r ∈ (rowss ts p).map plainR := List.mem_map.mpr ⟨r, h, rfl⟩
    rw [rowss_told] at h'
    exact tolds_end ts p (plainR r) h'
end
end NL
/-! names and numbers of a state stay small -/
namespace NL
open PySem L2 Evl
structure HZ (L : Nat) (r : HR) : Prop where
  la : -1 ≤ r.last ∧ r.last ≤ 1
  lo : ∀ l, r.looks = some l → l ≤ (L : Int)
structure GZ (A : Str → Prop) (N : Nat) (g : GR) : Prop where
  co : 0 ≤ g.count ∧ g.count ≤ (N : Int)
  ho : ∀ m, g.holder = some m → A m
  pl : ∀ p ∈ g.places, A p.1
def DZ (A : Str → Prop) (L N : Nat) (hs : List (Str × HR)) (gs : List (Str × GR)) : Prop := (∀ h r, getN hs h = some r → HZ L r) ∧ ∀ g r, getN gs g = some r → GZ A N r
section
variable {A : Str → Prop} {L N : Nat} {d : DS}
theorem DZ.mono {hs : List (Str × HR)} {gs : List (Str × GR)} {M : Nat} (h : DZ A L N hs gs) (hm : N ≤ M) : DZ A L M hs gs := ⟨h.1, fun g r hg => ⟨⟨(h.2 g r hg).co.1, by have := (h.2 g r hg).co.2; omega⟩, (h.2 g r hg).ho, (h.2 g r hg).pl⟩⟩
end
end NL
/-! what a step tells: short rows of names, words and numbers -/
namespace NL
open PySem L2 Evl
def AtZ (d : PyData) : Prop := (∃ s, d = .str s ∧ asc s ∧ s.length ≤ 20) ∨ ∃ i : Int, d = .int i ∧ i.natAbs ≤ 4000000000
def EvZ (e : PyData) : Prop := ∃ ds, e = .tuple ds ∧ ds.length ≤ 5 ∧ ∀ d ∈ ds, AtZ d
def NmZ (m : Str) : Prop := asc m ∧ m.length ≤ 20
theorem at_s {s : Str} (h : NmZ s) : AtZ (.str s) := Or.inl ⟨s, rfl, h.1, h.2⟩
theorem at_i {i : Int} (h : i.natAbs ≤ 4000000000) : AtZ (.int i) := Or.inr ⟨i, rfl, h⟩
theorem z2 {a : String} {x : Str} (ha : NmZ (Str.ofString a)) (hx : NmZ x) : EvZ (e2 a x) := ⟨_, rfl, by simp, fun d hd => by
  simp only [List.mem_cons, List.not_mem_nil, or_false] at hd
  rcases hd with rfl | rfl
  · exact at_s ha
  · exact at_s hx⟩
theorem z3 {a : String} {x y : Str} (ha : NmZ (Str.ofString a)) (hx : NmZ x) (hy : NmZ y) : EvZ (e3 a x y) := ⟨_, rfl, by simp, fun d hd => by
  simp only [List.mem_cons, List.not_mem_nil, or_false] at hd
  rcases hd with rfl | rfl | rfl
  · exact at_s ha
  · exact at_s hx
  · exact at_s hy⟩
theorem z4 {a : String} {x y z : Str} (ha : NmZ (Str.ofString a)) (hx : NmZ x) (hy : NmZ y) (hz : NmZ z) : EvZ (e4 a x y z) := ⟨_, rfl, by simp, fun d hd => by
  simp only [List.mem_cons, List.not_mem_nil, or_false] at hd
  rcases hd with rfl | rfl | rfl | rfl
  · exact at_s ha
  · exact at_s hx
  · exact at_s hy
  · exact at_s hz⟩
end NL
/-! == of two dicts whose values are data -/
namespace NL
open PySem L2 Evl
/-! ### houses' rows as data -/
section
variable {K : PySem.W.Frag} {H : Hp}
def optD : Option Int → PyData
  | none => .none
  | some i => .int i
def optDS : Option Str → PyData
  | none => .none
  | some m => .str m
def hrD (r : HR) : PyData := .tuple [.int r.row, .int r.last, .str r.how.str, optD r.looks]
def plD (p : Str × Bool) : PyData := .tuple [.str p.1, .bool p.2]
def grD (g : GR) : PyData := .tuple [optDS g.holder, .int g.count, .tuple (g.places.map plD)]
theorem optI_dp (o : Option Int) : Dp K H (optI o) (optD o) := by
  cases o
  · exact .non
  · exact .int _
theorem optS_dp (o : Option Str) : Dp K H (optS o) (optDS o) := by
  cases o
  · exact .non
  · exact .str _
theorem HV.dp {v : V} {r : HR} (h : HV K H v r) : Dp K H v (hrD r) := by
  obtain ⟨a, rfl, st⟩ := h
  exact .tup st (.cons (.int _) (.cons (.int _) (.cons (.str _) (.cons (optI_dp _) .nil))))
theorem pls_dp : ∀ {xs : List V} {ps : List (Str × Bool)}, Paired (PlV K H) xs ps → DpAll K H xs (ps.map plD)
  | _, _, .nil => .nil
  | _, _, .cons h t => by
    obtain ⟨a, rfl, st⟩ := h
    exact .cons (.tup st (.cons (.str _) (.cons (.bl _) .nil))) (pls_dp t)
theorem GV.dp {v : V} {g : GR} (h : GV K H v g) : Dp K H v (grD g) := by
  obtain ⟨a, u, rfl, st, b, xs, rfl, st2, pd⟩ := h
  exact .tup st (.cons (optS_dp _) (.cons (.int _) (.cons (.tup st2 (pls_dp pd)) .nil)))
end
end NL
/-! == and != of two objects of one class, its own __eq__ -/
namespace NL
open PySem L2 Evl PySem.Spec PyProof.Rows
end NL
/-! str(x), the class has __str__ -/
namespace NL
open PySem L2 Evl PySem.Spec PyProof.Rows
end NL
/-! what a step tells, as data that can be compared and shown -/
namespace NL
open PySem L2 Evl
mutual
theorem dy_dp {K : PySem.W.Frag} {H : Hp} : ∀ (d : PyData) (v : V), tupOnly d = true → Dy K H v d → Dp K H v d
  | .none, _, _, h => by cases h; exact .non
  | .bool b, _, _, h => by cases h; exact .bl b
  | .int i, _, _, h => by cases h; exact .int i
  | .str x, _, _, h => by cases h; exact .str x
  | .list ds, _, t, _ => by cases t
  | .dict ds, _, t, _ => by cases t
  | .tuple ds, _, t, h => by
    cases h with
    | tup hs ha => exact .tup hs (dya_dp ds _ t ha)
theorem dya_dp {K : PySem.W.Frag} {H : Hp} : ∀ (ds : List PyData) (vs : List V), tupOnlys ds = true → DyAll K H vs ds → DpAll K H vs ds
  | [], _, _, h => by cases h; exact .nil
  | d :: ds, _, t, h => by
    have t : (tupOnly d && tupOnlys ds) = true := t
    rw [Bool.and_eq_true] at t
    cases h with
    | cons a b => exact .cons (dy_dp d _ t.1 a) (dya_dp ds _ t.2 b)
end
theorem asc_lay {x : Str} (h : asc x) : PyData.strOk x = true := by
  unfold PyData.strOk
  rw [Array.all_eq_true]
  intro i hi
  have := h x.cps[i] (by simp)
  simp
  omega
end NL
/-! what stays while lists and objects change; a row of steps -/
namespace NL
open PySem L2 Evl
def Gd (H H' : Hp) : Prop := ∀ a o, H a = some o → (∀ xs, o ≠ .lst xs) → (∀ C d f, o ≠ .ins C d f) → H' a = some o
theorem Gd.refl (H : Hp) : Gd H H := fun _ _ h _ _ => h
theorem Gd.ex {H H' : Hp} (e : Ex H H') : Gd H H' := fun a o h _ _ => e a o h
theorem Gd.trans {H H1 H2 : Hp} (a : Gd H H1) (b : Gd H1 H2) : Gd H H2 := fun x o h n m => b x o (a x o h n m) n m
theorem Gd.ins {H H' : Hp} {p C dx : Addr} {fs : List (Str × V)} (h : H p = some (.ins C dx fs)) (k : Kp p p H H') : Gd H H' := fun a o z _ n => by
  have : a ≠ p := fun y => by
    subst y
    rw [h] at z
    cases z
    exact n _ _ _ rfl
  exact k _ _ this this z
theorem Gd.lst {H : Hp} {l : Addr} {xs : List V} {o : HO} (h : H l = some (.lst xs)) : Gd H (upd H l o) := fun a u z n _ => by
  have : a ≠ l := fun y => by
    subst y
    rw [h] at z
    cases z
    exact n _ rfl
  rw [upd_ne this]
  exact z
theorem Gd.st {K : PySem.W.Frag} {H H' : Hp} (g : Gd H H') : ST K H H' := fun a xs t => by
  rcases t with (z | ⟨ob, z⟩) | z
  · exact Or.inl (Or.inl (g _ _ z (fun _ y => by cases y) fun _ _ _ y => by cases y))
  · exact Or.inl (Or.inr ⟨ob, g _ _ z (fun _ y => by cases y) fun _ _ _ y => by cases y⟩)
  · exact Or.inr z
theorem Gd.tk {H H' : Hp} (g : Gd H H') : TK H H' := fun a xs z => g _ _ z (fun _ y => by cases y) fun _ _ _ y => by cases y
theorem Sy.gd {K : PySem.W.Frag} {H H' : Hp} (y : Sy K H) (g : Gd H H') : Sy K H' := by
  rcases y with y | ⟨o, u, y⟩
  · exact Or.inl y
  · exact Or.inr ⟨o, u, g _ _ y (fun _ z => by cases z) fun _ _ _ z => by cases z⟩
theorem Dm.gd {α : Type} {R S : V → α → Prop} {H H' : Hp} {d : Addr} {xs : List (Str × α)} (h : Dm R H d xs) (g : Gd H H') (s : ∀ v x, R v x → S v x) : Dm S H' d xs := by
  obtain ⟨kvs, e⟩ := h.dk
  exact h.st (fun o z => by rw [e] at z; cases z; exact g _ _ e (fun _ y => by cases y) fun _ _ _ y => by cases y) s
theorem HoAt.gd {K : PySem.W.Frag} {C : Addr} {H H' : Hp} {B : HoA} {s : Sta} {x : SH} (h : HoAt K C H B s x) (g : Gd H H') (ob : ∀ o, H B.p = some o → H' B.p = some o) : HoAt K C H' B s x :=
  ⟨ob _ h.ob, h.pa.gd g fun _ _ z => z.st g.st, h.bo.gd g fun _ _ z => z, h.pr.gd g fun _ _ z => z.st g.st, h.hs.gd g fun _ _ z => z.st g.st, h.gs.gd g fun _ _ z => z.st g.st⟩
theorem EvsV.gd {K : PySem.W.Frag} {H H' : Hp} {v : V} {es : List PyData} (h : EvsV K H v es) (g : Gd H H') : EvsV K H' v es := by
  obtain ⟨t, vs, rfl, h1, h2⟩ := h
  exact ⟨t, vs, rfl, g.tk _ _ h1, paired_mono (fun _ _ z => z.st g.st) h2⟩
theorem evs_dy {K : PySem.W.Frag} {H : Hp} : ∀ {vs : List V} {es : List PyData}, Paired (EvV K H) vs es → DyAll K H vs es ∧ tupOnlys es = true
  | _, _, .nil => ⟨.nil, rfl⟩
  | _, _, .cons h t => by
    obtain ⟨i1, i2⟩ := evs_dy t
    refine ⟨.cons h.1 i1, ?_⟩
    show (tupOnly _ && tupOnlys _) = true
    rw [h.2, i2]
    rfl
theorem EvsV.dy {K : PySem.W.Frag} {H : Hp} {v : V} {es : List PyData} (h : EvsV K H v es) : Dy K H v (.tuple es) ∧ tupOnly (.tuple es) = true := by
  obtain ⟨t, vs, rfl, h1, h2⟩ := h
  obtain ⟨i1, i2⟩ := evs_dy h2
  exact ⟨.tup (st_of h1) i1, i2⟩
theorem EvsV.dp {K : PySem.W.Frag} {H : Hp} {v : V} {es : List PyData} (h : EvsV K H v es) : Dp K H v (.tuple es) := dy_dp _ _ h.dy.2 h.dy.1
/-! a row of steps -/
end NL
/-! methods of lists within a comprehension; a dict brought up to date -/
namespace NL
open PySem L2 Evl PySem.Spec PyProof.Rows
section
variable {X : Cx}
theorem mt_indexDK {K : PySem.W.Frag} (h : X.K = K) (hu : X.A.units + 65 < cLine) : MtR X "list.index" (rIndexD K) := by subst h; exact mt_indexD hu
end
/-! dict(l), l a list of pairs -/
end NL
/-! literals of tuples; shapes of nested lists -/
namespace NL
open PySem L2 Evl
mutual
def litE : PyData → TE
  | .int i => tC (.int i)
  | .str s => tC (.str s)
  | .bool b => tC (.bl b)
  | .tuple ds => tTup (litA ds)
  | _ => tC .non
def litA : List PyData → TA
  | [] => tNil
  | d :: ds => tCons (litE d) (litA ds)
end
mutual
def litOk : PyData → Bool
  | .none => true
  | .int _ => true
  | .str _ => true
  | .bool _ => true
  | .tuple ds => decide (ds.length ≤ 1000) && litOks ds
  | _ => false
def litOks : List PyData → Bool
  | [] => true
  | d :: ds => litOk d && litOks ds
end
theorem dya_ln {K : PySem.W.Frag} {H : Hp} : ∀ {vs : List V} {ds : List PyData}, DyAll K H vs ds → vs.length = ds.length
  | _, _, .nil => rfl
  | _, _, .cons _ t => by rw [List.length_cons, List.length_cons, dya_ln t]
mutual
theorem lit_dy {K : PySem.W.Frag} {σ : L2.St} : ∀ (d : PyData), litOk d = true → ∀ {H : Hp} {Q : VK}, (∀ v H', Ex H H' → Dy K H' v d → Q v H') → litE d σ H Q
  | .none, _, H, Q, q => q _ H (Ex.refl H) .non
  | .int i, _, H, Q, q => q _ H (Ex.refl H) (.int i)
  | .str s, _, H, Q, q => q _ H (Ex.refl H) (.str s)
  | .bool b, _, H, Q, q => q _ H (Ex.refl H) (.bl b)
  | .list ds, h, _, _, _ => by cases h
  | .dict ds, h, _, _, _ => by cases h
  | .tuple ds, h, H, Q, q => by
    have h : (decide (ds.length ≤ 1000) && litOks ds) = true := h
    rw [Bool.and_eq_true, decide_eq_true_eq] at h
    refine lits_dy ds h.2 fun vs H' e dy => ⟨sz_of (by rw [dya_ln dy]; omega), fun p hp => q _ _ (e.trans (Ex.new hp)) (.tup (st_of upd_same) (dya_mono (Ex.new hp) dy))⟩
theorem lits_dy {K : PySem.W.Frag} {σ : L2.St} : ∀ (ds : List PyData), litOks ds = true → ∀ {H : Hp} {Q : List V → Hp → Prop}, (∀ vs H', Ex H H' → DyAll K H' vs ds → Q vs H') → litA ds σ H Q
  | [], _, H, Q, q => q [] H (Ex.refl H) .nil
  | d :: ds, h, H, Q, q => by
    have h : (litOk d && litOks ds) = true := h
    rw [Bool.and_eq_true] at h
    exact lit_dy d h.1 fun v H1 e1 dy1 => lits_dy ds h.2 fun vs H2 e2 dy2 => q _ H2 (e1.trans e2) (.cons (dy_mono e2 dy1) dy2)
end
/-! shapes -/
inductive Sh where
  | leaf
  | nd (ss : List Sh)
mutual
def Sh.size : Sh → Nat
  | .leaf => 1
  | .nd ss => sizesS ss + 1
def sizesS : List Sh → Nat
  | [] => 0
  | s :: ss => s.size + sizesS ss
end
mutual
def Sh.deep : Sh → Nat
  | .leaf => 0
  | .nd ss => deepsS ss + 1
def deepsS : List Sh → Nat
  | [] => 0
  | s :: ss => max s.deep (deepsS ss)
end
mutual
def Sh.ok : Sh → Bool
  | .leaf => true
  | .nd ss => !ss.isEmpty && oksS ss
def oksS : List Sh → Bool
  | [] => true
  | s :: ss => s.ok && oksS ss
end
/-! a plan of a shape -/
theorem take_oneS {α : Type} {xs : List α} {i : Nat} {x : α} (h : xs[i]? = some x) : xs.take (i + 1) = xs.take i ++ [x] := by
  have hi := (List.getElem?_eq_some_iff.mp h).1
  rw [List.take_succ_eq_append_getElem hi, (List.getElem?_eq_some_iff.mp h).2]
end NL
/-! literals with their sizes; literal plans -/
namespace NL
open PySem L2 Evl
end NL
/-! two data of tuples, compared -/
namespace NL
open PySem L2 Evl
/-! f() where no repr is under way -/
/-! a literal row of names -/
end NL
/-! literals with values in them -/
namespace NL
open PySem L2 Evl
inductive LT where
  | c (d : PyData)
  | x (te : TE) (v : V)
  | tup (ts : List LT)
def flatL : V → Option PyData
  | .non => some .none
  | .int i => some (.int i)
  | .str s => some (.str s)
  | .bl b => some (.bool b)
  | _ => none
mutual
def LT.d : LT → PyData
  | .c d => d
  | .x _ v => (flatL v).getD .none
  | .tup ts => .tuple (ltD ts)
def ltD : List LT → List PyData
  | [] => []
  | t :: ts => t.d :: ltD ts
end
mutual
def LT.ok (σ : L2.St) (H : Hp) : LT → Prop
  | .c d => litOk d = true
  | .x te v => Ev te σ H v ∧ (flatL v).isSome = true
  | .tup ts => ts.length ≤ 1000 ∧ ltOk σ H ts
def ltOk (σ : L2.St) (H : Hp) : List LT → Prop
  | [] => True
  | t :: ts => t.ok σ H ∧ ltOk σ H ts
end
end NL
/-! list.count over numbers, texts, truths, None -/
namespace NL
open PySem L2 Evl
def flatOf : Value → V
  | .bool b => .bl b
  | .int i _ => .int i
  | .str s _ => .str s
  | _ => .non
theorem rel_flat {x : V} {u : Value} (r : RelV x u) (f : flatV x = true) : flatOf u = x := by
  cases x with
  | non => cases r; rfl
  | bl b => cases r; rfl
  | int i => obtain ⟨t, rfl⟩ := r; rfl
  | str s => obtain ⟨t, rfl⟩ := r; rfl
  | _ => cases f
theorem cnt_flat {y : V} : ∀ {xs : List V} {us : List Value}, Vals xs us → xs.all flatV = true → us.countP (fun u => eqV (flatOf u) y) = xs.countP (fun z => eqV z y)
  | _, _, .nil, _ => rfl
  | _, _, .cons r t, f => by
    rw [List.all_cons, Bool.and_eq_true] at f
    rw [List.countP_cons, List.countP_cons, cnt_flat t f.2, rel_flat r f.1]
theorem flat_mem {xs : List V} {us : List Value} (r : Vals xs us) (f : xs.all flatV = true) : ∀ u ∈ us, ∃ x, RelV x u ∧ flatV x = true ∧ flatOf u = x := by
  induction r with
  | nil => intro u h; cases h
  | cons a t ih =>
    rw [List.all_cons, Bool.and_eq_true] at f
    intro u h
    rcases List.mem_cons.mp h with rfl | h
    · exact ⟨_, a, f.1, rel_flat a f.1⟩
    · exact ih f.2 u h
def rCntV (K : PySem.W.Frag) : V → List V → Hp → VK → Prop := fun x vs H Q => ∃ (p : Addr) (xs : List V) (y : V), x = .ref p ∧ vs = [y] ∧ SqL K H p xs ∧ flatV y = true ∧ xs.all flatV = true ∧ Q (.int (xs.countP (fun z => eqV z y) : Nat)) H
theorem mt_countV {X : Cx} : MtR X "list.count" (rCntV X.K) := by
  intro pins s σ H x vs v us Q I rx rxs h
  obtain ⟨p, xs, y, rfl, rfl, hs, fy, fx, q⟩ := h
  cases rx
  obtain ⟨u, rfl, ru⟩ := rxs.one
  obtain ⟨its, rv, ⟨⟨cls, dd, data, sl⟩, n, ho, hc, hdn, hd⟩, hlen⟩ := I.list hs
  simp only at hc hd
  subst hc hd
  refine call_meets PySem.F.slot_list_count ⟨_, ho, rfl⟩ PySem.F.entry_list_count (PySem.F.args_list_count_2 _ _)
    (SeqAt.list_countAt p its.toArray n dd sl u (fun w => eqV (flatOf w) y)) ⟨ho, fun w hw => ?_, ?_⟩
  · obtain ⟨z, rz, fz, e⟩ := flat_mem rv fx w (by simpa using hw)
    rw [e]
    exact eqAt_V rz ru fz fy
  have ec : its.toArray.toList.countP (fun w => eqV (flatOf w) y) = xs.countP (fun z => eqV z y) := cnt_flat rv fx
  refine ⟨.int (xs.countP (fun z => eqV z y) : Nat), H, I.tok _, ⟨s.toks, ?_⟩, q⟩
  show Value.int ((its.toArray.toList.countP (fun w => eqV (flatOf w) y) : Nat) : Int) s.toks = Value.int ((xs.countP (fun z => eqV z y) : Nat) : Int) s.toks
  rw [ec]
theorem mt_countK {X : Cx} {K : PySem.W.Frag} (h : X.K = K) : MtR X "list.count" (rCntV K) := by
  subst h
  exact mt_countV
end NL
/-! a step tells something -/
namespace NL
open PySem L2 Evl
abbrev tl (d : DS) : Nat := d.told.length
end NL
/-! list(zip(s, t)) of two lists of texts, as many tuples as the shorter one has -/
namespace NL
open PySem L2 Evl
/-- where a zip of two lists stands behind m turns; S is the list that is filled -/
structure LzS (c ti out i j a b S : Addr) (xs ys : Array Value) (m : Nat) (h : Heap) : Prop where
  z1 : IsPair h ti (.ref i) (.ref j)
  z2 : h.IsListIter i a m
  z3 : h.IsListIter j b m
  z4 : h.IsList a xs
  z5 : h.IsList b ys
  z6 : (IsZip h c ti out .none ∧ ∃ u v, IsPair h out u v) ∨ ∃ T f oT, IsZipHeld h c ti out T f ∧ h.get? T = some oT ∧ T ≠ c ∧ T ≠ i ∧ T ≠ j ∧ T ≠ S
theorem LzS.keep {c ti out i j a b S : Addr} {xs ys : Array Value} {m : Nat} {h g : Heap} (L : LzS c ti out i j a b S xs ys m h) (k : ∀ q o, q ≠ S → h.get? q = some o → g.get? q = some o)
    (n1 : ti ≠ S) (n2 : i ≠ S) (n3 : j ≠ S) (n4 : a ≠ S) (n5 : b ≠ S) (n6 : c ≠ S) (n7 : out ≠ S) : LzS c ti out i j a b S xs ys m g where
  z1 := k _ _ n1 L.z1
  z2 := L.z2.at fun o e => k _ o n2 e
  z3 := L.z3.at fun o e => k _ o n3 e
  z4 := L.z4.at fun o e => k _ o n4 e
  z5 := L.z5.at fun o e => k _ o n5 e
  z6 := by
    rcases L.z6 with ⟨z, u, v, e⟩ | ⟨T, f, oT, z, e, t1, t2, t3, t4⟩
    · exact Or.inl ⟨k _ _ n6 z, u, v, k _ _ n7 e⟩
    · exact Or.inr ⟨T, f, oT, k _ _ n6 z, k _ _ t4 e, t1, t2, t3, t4⟩
/-- list(zip(s, t)) of two lists of texts -/
def tListZ (K : PySem.W.Frag) (ta : TA) : TE := fun σ H Q => ta σ H fun vs H1 => ∃ (a b : Addr) (xs ys : List Str), vs = [.ref a, .ref b] ∧ SqL K H1 a (xs.map V.str) ∧ SqL K H1 b (ys.map V.str) ∧
  ∀ (H2 : Hp) (p : Addr) (ts : List Addr), (∀ q o, H1 q = some o → H2 q = some o) → H1 p = none → (∀ t ∈ ts, H1 t = none) → p ∉ ts → H2 p = some (.lst (ts.map V.ref)) →
    Paired (fun (t : Addr) (q : Str × Str) => H2 t = some (.tup [.str q.1, .str q.2])) ts (xs.zip ys) → Q (.ref p) H2
end NL
/-! what a term makes, told by data: DE a datum, DA some, DL a list of the heap -/
namespace NL
open PySem L2 Evl
section
variable {K : PySem.W.Frag}
def DE (K : PySem.W.Frag) (σ : L2.St) (H0 : Hp) (te : TE) (d : PyData) : Prop := ∀ (H : Hp) (Q : VK), Ex H0 H → (∀ v H', Ex H H' → Dy K H' v d → Q v H') → te σ H Q
def DA (K : PySem.W.Frag) (σ : L2.St) (H0 : Hp) (ta : TA) (ds : List PyData) : Prop := ∀ (H : Hp) (Q : List V → Hp → Prop), Ex H0 H → (∀ vs H', Ex H H' → DyAll K H' vs ds → Q vs H') → ta σ H Q
def DL (K : PySem.W.Frag) (σ : L2.St) (H0 : Hp) (te : TE) (ds : List PyData) : Prop := ∀ (H : Hp) (Q : VK), Ex H0 H → (∀ p vs H', Ex H H' → H' p = some (.lst vs) → DyAll K H' vs ds → Q (.ref p) H') → te σ H Q
variable {σ : L2.St} {H0 : Hp}
theorem DE.ex {te : TE} {d : PyData} {H1 : Hp} (h : DE K σ H0 te d) (e : Ex H0 H1) : DE K σ H1 te d := fun H Q e1 q => h H Q (e.trans e1) q
theorem DA.ex {ta : TA} {d : List PyData} {H1 : Hp} (h : DA K σ H0 ta d) (e : Ex H0 H1) : DA K σ H1 ta d := fun H Q e1 q => h H Q (e.trans e1) q
theorem DL.ex {te : TE} {d : List PyData} {H1 : Hp} (h : DL K σ H0 te d) (e : Ex H0 H1) : DL K σ H1 te d := fun H Q e1 q => h H Q (e.trans e1) q
theorem DE.c (d : PyData) (h : litOk d = true) : DE K σ H0 (litE d) d := fun H Q _ q => lit_dy (K := K) d h q
theorem DE.s (x : Str) : DE K σ H0 (tC (.str x)) (.str x) := fun H Q _ q => q _ H (Ex.refl H) (.str x)
theorem DE.v {i : Nat} {x : Str} (h : σ[i]? = some (some (.str x))) : DE K σ H0 (tVar i) (.str x) := fun H Q _ q => ⟨_, h, q _ H (Ex.refl H) (.str x)⟩
theorem DE.w {i : Nat} {v : V} {d : PyData} (h : σ[i]? = some (some v)) (dy : Dy K H0 v d) : DE K σ H0 (tVar i) d := fun H Q e q => ⟨_, h, q _ H (Ex.refl H) (dy_mono e dy)⟩
theorem DA.nil : DA K σ H0 tNil [] := fun H Q _ q => q [] H (Ex.refl H) .nil
theorem DA.cons {te : TE} {ta : TA} {d : PyData} {ds : List PyData} (h : DE K σ H0 te d) (h2 : DA K σ H0 ta ds) : DA K σ H0 (tCons te ta) (d :: ds) := fun H Q e q =>
  h H _ e fun v H1 e1 dy => h2 H1 _ (e.trans e1) fun vs H2 e2 dys => q _ H2 (e1.trans e2) (.cons (dy_mono e2 dy) dys)
theorem DE.tup {ta : TA} {ds : List PyData} (h : DA K σ H0 ta ds) (hl : ds.length ≤ 1000) : DE K σ H0 (tTup ta) (.tuple ds) := fun H Q e q =>
  h H _ e fun vs H1 e1 dys => ⟨sz_of (by rw [dya_ln dys]; omega), fun p hp => q _ _ (e1.trans (Ex.new hp)) (.tup (st_of upd_same) (dya_mono (Ex.new hp) dys))⟩
theorem DL.lst {ta : TA} {ds : List PyData} (h : DA K σ H0 ta ds) (hl : ds.length ≤ 1000) : DL K σ H0 (tLst ta) ds := fun H Q e q =>
  h H _ e fun vs H1 e1 dys => ⟨sz_of (by rw [dya_ln dys]; omega), fun p hp => q _ _ _ (e1.trans (Ex.new hp)) upd_same (dya_mono (Ex.new hp) dys)⟩
theorem DL.v {i : Nat} {p : Addr} {vs : List V} {ds : List PyData} (h : σ[i]? = some (some (.ref p))) (hp : H0 p = some (.lst vs)) (dy : DyAll K H0 vs ds) : DL K σ H0 (tVar i) ds := fun H Q e q => ⟨_, h, q _ _ H (Ex.refl H) (e _ _ hp) (dya_mono e dy)⟩
/-- tuple(..) of a list -/
theorem DE.ofL {te : TE} {ds : List PyData} (h : DL K σ H0 te ds) : DE K σ H0 (tCB (rTupF K) (tCons te tNil)) (.tuple ds) := fun H Q e q =>
  h H _ e fun p vs H1 e1 hp dy => ⟨p, vs, rfl, sq_of hp, fun l o hl ho => q _ _ (e1.trans (Ex.new hl)) (.tup (Or.inl (Or.inr ⟨o, upd_same⟩)) (dya_mono (Ex.new hl) dy))⟩
theorem tos_map {α : Type} {g : α → PyData} (h : ∀ p, tupOnly (g p) = true) : ∀ ps : List α, tupOnlys (ps.map g) = true
  | [] => rfl
  | p :: ps => by
    show (tupOnly (g p) && tupOnlys (ps.map g)) = true
    rw [h p, tos_map h ps]
    rfl
theorem list_turns {a : Addr} {xs : List V} {g : TG} {tb tz : TS} {D : Ends} {H : Hp} (Pv : Nat → L2.St → Hp → Prop) (h0 : Pv 0 σ H) (hl : ∀ i σ H, i ≤ xs.length → Pv i σ H → SqL K H a xs)
    (hs : ∀ i x σ H, xs[i]? = some x → Pv i σ H → g x σ H fun σ2 H2 => tb { D with nx := Pv (i + 1), ct := Pv (i + 1), bk := tz D } σ2 H2) (hd : ∀ σ H, Pv xs.length σ H → tz D σ H) :
    ∃ W : Nat → Nat → L2.St → Hp → Prop, (∃ m, W 0 m σ H) ∧ ∀ i m σ H, W i m σ H →
      ((Itl K a).stop i H ∧ tz D σ H) ∨ ((Itl K a).go i H ∧ ∃ N : L2.St → Hp → Prop, (∀ σ' H', N σ' H' → ∃ m', m' < m ∧ W (i + 1) m' σ' H') ∧ ∀ x H', (Itl K a).yld i H x H' → g x σ H' fun σ2 H2 => tb { D with nx := N, ct := N, bk := tz D } σ2 H2) :=
  for_list (D := { D with nx := tz D }) Pv h0 hl hs hd
theorem dya_strs {H : Hp} : ∀ {vs : List V} {xs : List Str}, DyAll K H vs (xs.map PyData.str) → vs = xs.map V.str
  | [], [], _ => rfl
  | _, x :: xs, h => by
    cases h with
    | cons a r =>
      cases a
      rw [dya_strs r]
      rfl
theorem dya_of_strs {H : Hp} : ∀ xs : List Str, DyAll K H (xs.map V.str) (xs.map PyData.str)
  | [] => .nil
  | x :: xs => .cons (.str x) (dya_of_strs xs)
theorem dya_pairs {H : Hp} : ∀ {ts : List Addr} {ps : List (Str × Str)}, Paired (fun (t : Addr) (q : Str × Str) => H t = some (.tup [.str q.1, .str q.2])) ts ps → DyAll K H (ts.map V.ref) (ps.map fun p => .tuple [.str p.1, .str p.2])
  | _, _, .nil => .nil
  | _, _, .cons h r => .cons (.tup (st_of h) (.cons (.str _) (.cons (.str _) .nil))) (dya_pairs r)
/-- list(zip(s, t)) -/
theorem DL.zip {te tf : TE} {xs ys : List Str} (h : DL K σ H0 te (xs.map PyData.str)) (h2 : DL K σ H0 tf (ys.map PyData.str)) : DL K σ H0 (tListZ K (tCons te (tCons tf tNil))) ((xs.zip ys).map fun p => .tuple [.str p.1, .str p.2]) := fun H Q e q =>
  h H _ e fun p vs H1 e1 hp dy => h2 H1 _ (e.trans e1) fun p2 us H2 e2 hp2 dy2 => by
    obtain rfl := dya_strs dy
    obtain rfl := dya_strs dy2
    exact ⟨p, p2, xs, ys, rfl, sq_of (e2 _ _ hp), sq_of hp2, fun H3 r ts k _ _ _ hr hpr => q r _ H3 ((e1.trans e2).trans k) hr (dya_pairs hpr)⟩
end
end NL
/-! for x, y in zip(s, t), s a list and t a tuple, as many -/
namespace NL
open PySem L2 Evl
section
variable {prog : Program} {w : World} {A : Around} {E : Value → Shared → Prop} {s : Shared}
/-- the first step of a zip, by the steps of its two iterators -/
theorem zipN_go {c ti out i j a b : Addr} {m : Nat} {xs ys : Array Value} {x y u v : Value} {Q : Fin → Shared → Prop} (D : ZipApart c ti out i j a b)
    (hc : IsZip s.heap c ti out .none) (hi : IsPair s.heap ti (.ref i) (.ref j)) (ho : IsPair s.heap out u v)
    (h1 : s.heap.IsListIter i a m) (h2 : s.heap.IsTupleIter j b m) (p1 : s.heap.IsList a xs) (p2 : s.heap.IsTuple b ys) (hx : xs[m]? = some x) (hy : ys[m]? = some y)
    (hQ : ∀ g, IsZip g c ti out (rawInt s.heap.objs.size) → g.IsListIter i a (m + 1) → g.IsTupleIter j b (m + 1) → IsPair g s.heap.objs.size x y → IsPair g out x y →
      (∀ d o, d ≠ c → d ≠ out → d ≠ i → d ≠ j → s.heap.get? d = some o → g.get? d = some o) → Q (.done (.ret (.ref s.heap.objs.size))) { s with heap := g }) :
    wpAny (model prog w) A (Builtin.«zip.__next__» ⟨[.ref c], []⟩) Q E s := by
  show wpAny _ _ (field (.ref c) 2 >>= _) _ _ _
  refine wpAny_bind (wpAny_field hc rfl (x := .bool false) rfl ?_)
  show wpAny _ _ (field (.ref c) 3 >>= _) _ _ _
  refine wpAny_bind (wpAny_field hc rfl (x := .ref ti) rfl (wpAny_bind (wpAny_seqItems hi rfl ?_)))
  show wpAny _ _ (Builtin.SmallTypes.ownedTupleIsFree (.ref c) >>= _) _ _ _
  refine wpAny_bind ?_
  unfold Builtin.SmallTypes.ownedTupleIsFree
  refine wpAny_bind (wpAny_field hc rfl (x := .none) rfl (wpAny_pure ?_))
  simp only [if_true]
  refine wpAny_bind (wpAny_rule (wpAny_bind (wpAny_field hc rfl (x := .ref out) rfl (wpAny_bind (wpAny_setField_rec hc (by simp) fun g1 z1 k1 => ?_)))))
  replace z1 : IsZip g1 c ti out .ellipsis := z1
  refine wpAny_bind ?_
  simp only [List.zipIdx_cons, List.zipIdx_nil, List.forIn_cons, List.forIn_nil]
  refine wpAny_bind (wpAny_bind (wpAny_onRaise ?_))
  show wpAny _ _ (Builtin.SmallTypes.nextOf (.ref i) >>= _) _ _ _
  refine wpAny_bind (wpAny_nextOf_list_item (s := { s with heap := g1 }) (h1.extBut k1.extBut D.i1z) (p1.extBut k1.extBut D.l1z) hx fun g2 i2 k2 => wpAny_pure ?_)
  have o2 : IsPair g2 out u v := k2.extBut _ _ D.TOi1 (k1.extBut _ _ D.TOz ho)
  refine wpAny_bind (wpAny_seqItems o2 rfl ?_)
  refine wpAny_bind (wpAny_updateSeq_pair o2 fun g3 o3 k3 => wpAny_bind (wpAny_letGo (wpAny_pure ?_)))
  replace o3 : IsPair g3 out x v := o3
  refine wpAny_bind (wpAny_bind (wpAny_onRaise ?_))
  show wpAny _ _ (Builtin.SmallTypes.nextOf (.ref j) >>= _) _ _ _
  refine wpAny_bind (RZ.nextOf_tuple_item (s := { s with heap := g3 }) (((h2.extBut k1.extBut D.i2z).extBut k2.extBut D.i12.symm).extBut k3.extBut D.TOi2.symm)
    (((p2.extBut k1.extBut D.l2z).extBut k2.extBut D.l2i1).extBut k3.extBut D.l2TO) hy fun g4 j4 k4 => wpAny_pure ?_)
  have o4 : IsPair g4 out x v := k4.extBut _ _ D.TOi2 o3
  refine wpAny_bind (wpAny_seqItems o4 rfl ?_)
  refine wpAny_bind (wpAny_updateSeq_pair o4 fun g5 o5 k5 => wpAny_bind (wpAny_letGo (wpAny_pure (wpAny_pure ?_))))
  replace o5 : IsPair g5 out x y := o5
  refine wpAny_bind (wpAny_seqItems o5 rfl (wpAny_bind (wpAny_newTuple ?_)))
  have sz : g5.objs.size = s.heap.objs.size := by rw [k5.1, k4.1, k3.1, k2.1, k1.1]
  have z5 : IsZip g5 c ti out .ellipsis := k5.extBut _ _ D.TOz.symm (k4.extBut _ _ D.i2z.symm (k3.extBut _ _ D.TOz.symm (k2.extBut _ _ D.i1z.symm z1)))
  have old : ∀ d o, d ≠ c → d ≠ out → d ≠ i → d ≠ j → s.heap.get? d = some o → g5.get? d = some o := fun d o d1 d2 d3 d4 e =>
    k5.extBut _ _ d2 (k4.extBut _ _ d4 (k3.extBut _ _ d2 (k2.extBut _ _ d3 (k1.extBut _ _ d1 e))))
  have i5 : g5.IsListIter i a (m + 1) := ((i2.extBut k3.extBut D.TOi1.symm).extBut k4.extBut D.i12).extBut k5.extBut D.TOi1.symm
  have j5 : g5.IsTupleIter j b (m + 1) := j4.extBut k5.extBut D.TOi2.symm
  have clt : c < g5.objs.size := Heap.lt_size z5
  show wpAny _ _ (Builtin.SmallTypes.ownedTupleHandOut (.ref c) (.ref g5.objs.size) >>= _) _ _ _
  refine wpAny_bind ?_
  unfold Builtin.SmallTypes.ownedTupleHandOut
  have z6 : IsZip (g5.push { cls := .type "tuple", data := .seq #[x, y] }) c ti out .ellipsis := Heap.get?_push_of_some _ z5
  refine wpAny_bind (wpAny_setField_rec z6 (by simp) fun g7 z7 k7 => ?_)
  replace z7 : IsZip g7 c ti out (rawInt g5.objs.size) := z7
  refine wpAny_setField_rec z7 (by simp) fun g8 z8 k8 => ?_
  replace z8 : IsZip g8 c ti out (rawInt g5.objs.size) := z8
  have up : ∀ d o, d ≠ c → g5.get? d = some o → g8.get? d = some o := fun d o d1 e => k8.extBut _ _ d1 (k7.extBut _ _ d1 (Heap.get?_push_of_some _ e))
  have t8 : IsPair g8 g5.objs.size x y := k8.extBut _ _ (Nat.ne_of_gt clt) (k7.extBut _ _ (Nat.ne_of_gt clt) (Heap.get?_push_size _ rfl))
  rw [sz] at z8 t8
  refine wpAny_pure ?_
  show Q (.done (.ret (.ref g5.objs.size))) _
  rw [sz]
  exact hQ g8 z8 (i5.at fun o e => up _ o D.i1z e) (j5.at fun o e => up _ o D.i2z e) t8 (up _ _ D.TOz o5) fun d o d1 d2 d3 d4 e => up d o d1 (old d o d1 d2 d3 d4 e)
/-- where the list ends -/
theorem zipN_stop {c ti out i j a b : Addr} {m : Nat} {xs : Array Value} {Q : Fin → Shared → Prop} (hh : A.handled = none) (D : ZipApart c ti out i j a b)
    (hc : IsZip s.heap c ti out .none) (hi : IsPair s.heap ti (.ref i) (.ref j)) (h1 : s.heap.IsListIter i a m) (p1 : s.heap.IsList a xs) (hx : xs[m]? = none)
    (hE : ∀ g e, (∀ d o, d ≠ c → d ≠ out → d ≠ i → d ≠ j → s.heap.get? d = some o → g.get? d = some o) → (∃ o, g.get? e = some o ∧ o.cls = .type "StopIteration") → E (.ref e) { s with heap := g }) :
    wpAny (model prog w) A (Builtin.«zip.__next__» ⟨[.ref c], []⟩) Q E s := by
  show wpAny _ _ (field (.ref c) 2 >>= _) _ _ _
  refine wpAny_bind (wpAny_field hc rfl (x := .bool false) rfl ?_)
  show wpAny _ _ (field (.ref c) 3 >>= _) _ _ _
  refine wpAny_bind (wpAny_field hc rfl (x := .ref ti) rfl (wpAny_bind (wpAny_seqItems hi rfl ?_)))
  show wpAny _ _ (Builtin.SmallTypes.ownedTupleIsFree (.ref c) >>= _) _ _ _
  refine wpAny_bind ?_
  unfold Builtin.SmallTypes.ownedTupleIsFree
  refine wpAny_bind (wpAny_field hc rfl (x := .none) rfl (wpAny_pure ?_))
  simp only [if_true]
  refine wpAny_bind (wpAny_rule (wpAny_bind (wpAny_field hc rfl (x := .ref out) rfl (wpAny_bind (wpAny_setField_rec hc (by simp) fun g1 z1 k1 => ?_)))))
  replace z1 : IsZip g1 c ti out .ellipsis := z1
  refine wpAny_bind ?_
  simp only [List.zipIdx_cons, List.zipIdx_nil, List.forIn_cons, List.forIn_nil]
  refine wpAny_bind (wpAny_bind (wpAny_onRaise ?_))
  show wpAny _ _ (Builtin.SmallTypes.nextOf (.ref i) >>= _) _ _ _
  refine wpAny_bind (wpAny_nextOf_list_end (s := { s with heap := g1 }) hh (h1.extBut k1.extBut D.i1z) (p1.extBut k1.extBut D.l1z) hx fun g2 e k2 he => ?_)
  obtain ⟨oe, h3, hcl⟩ := he
  have z2 : IsZip g2 c ti out .ellipsis := k2 _ _ D.i1z.symm z1
  have ne : e ≠ c := fun z => by
    subst z
    rw [z2] at h3
    cases h3
    simp at hcl
  refine wpAny_setField_rec z2 (by simp) fun g3 _ k3 => hE g3 e (fun d o d1 _ d3 _ z => k3.extBut _ _ d1 (k2 _ _ d3 (k1.extBut _ _ d1 z))) ⟨oe, k3.extBut _ _ ne h3, hcl⟩
/-- next(..) of it -/
theorem zipN_next {c ti out i j a b : Addr} {m : Nat} {xs ys : Array Value} {u v : Value} {Q : Option Value → Shared → Prop} (hh : A.handled = none) (D : ZipApart c ti out i j a b)
    (hc : IsZip s.heap c ti out .none) (hi : IsPair s.heap ti (.ref i) (.ref j)) (ho : IsPair s.heap out u v) (h1 : s.heap.IsListIter i a m) (h2 : s.heap.IsTupleIter j b m) (p1 : s.heap.IsList a xs) (p2 : s.heap.IsTuple b ys) (hsz : xs.size = ys.size)
    (hx : ∀ x y, xs[m]? = some x → ys[m]? = some y → ∀ g, IsZip g c ti out (rawInt s.heap.objs.size) → g.IsListIter i a (m + 1) → g.IsTupleIter j b (m + 1) → IsPair g s.heap.objs.size x y → IsPair g out x y →
      (∀ d o, d ≠ c → d ≠ out → d ≠ i → d ≠ j → s.heap.get? d = some o → g.get? d = some o) → Q (some (.ref s.heap.objs.size)) { s with heap := g })
    (he : xs[m]? = none → ∀ g, (∀ d o, d ≠ c → d ≠ out → d ≠ i → d ≠ j → s.heap.get? d = some o → g.get? d = some o) → Q none { s with heap := g }) : wpAny (model prog w) A (pyNext (.ref c)) Q E s := by
  have ty : s.TypeIs (.ref c) "zip" := ⟨_, hc, rfl⟩
  unfold pyNext
  refine wpAny_bind (wpAny_attempt (wpAny_callSpecial?_slot (name := Str.ofString "__next__") ty F.slot_zip_next (wpAny_call_entry F.slot_zip_next ty F.entry_zip_next ?_ (F.args_zip_next_1 _))))
  cases ex : xs[m]? with
  | none =>
    refine zipN_stop hh D hc hi h1 p1 ex fun g e k z => ?_
    obtain ⟨o, ho, hcl⟩ := z
    exact wpAny_bind (wpAny_isInstance (T := "StopIteration") (b := true) ⟨o, ho, hcl⟩ isSubtype_stop (wpAny_pure (he ex g k)))
  | some x =>
    have lt : m < ys.size := by
      rw [← hsz]
      exact (Array.getElem?_eq_some_iff.mp ex).1
    have ey := Array.getElem?_eq_getElem lt
    exact zipN_go D hc hi ho h1 h2 p1 p2 ex ey fun g a1 a2 a3 a4 a5 k => ⟨_, rfl, wpAny_pure (hx x _ ex ey g a1 a2 a3 a4 a5 k)⟩
end
/-- a list and a tuple by turns -/
def ItzN (K : PySem.W.Frag) (a b : Addr) : It :=
  ⟨fun i H => ∃ (xs ys : List V) (x y : V), SqL K H a xs ∧ SqT K H b ys ∧ xs.length = ys.length ∧ xs[i]? = some x ∧ ys[i]? = some y,
    fun i H v H' => ∃ T x y, v = .ref T ∧ H T = none ∧ H' = upd H T (.tup [x, y]) ∧ (∀ xs, SqL K H a xs → xs[i]? = some x) ∧ ∀ ys, SqT K H b ys → ys[i]? = some y,
    fun i H => ∃ xs ys : List V, SqL K H a xs ∧ SqT K H b ys ∧ xs.length = ys.length ∧ xs.length ≤ i⟩
theorem mem_fp5 {c z TI TO i1 i2 : Addr} (h : c ∈ [z, TI, TO, i1, i2]) : c = z ∨ c = TI ∨ c = TO ∨ c = i1 ∨ c = i2 := by simpa using h
theorem turn_zipN {P : Program} {w : World} {K : PySem.W.Frag} {elts : List Expr} {kk : Nat} {tp : Pos} {a b z TI TO i1 i2 : Addr} (D : ZipApart z TI TO i1 i2 a b) :
    Turn P w K (.Tuple elts kk tp) (ItzN K a b) [z, TI, TO, i1, i2] z (fun i h => IsZip h z TI TO .none ∧ IsPair h TI (.ref i1) (.ref i2) ∧ (∃ x y, IsPair h TO x y) ∧ h.IsListIter i1 a i ∧ h.IsTupleIter i2 b i) where
  mem := List.mem_cons_self ..
  obj := by
    rintro i h ⟨hz, hTI, ⟨x, y, hTO⟩, ⟨o1, e1, _, d1⟩, ⟨o2, e2, _, d2⟩⟩ c hc
    rcases mem_fp5 hc with rfl | rfl | rfl | rfl | rfl
    · exact ⟨_, hz, fun v q => nomatch q⟩
    · exact ⟨_, hTI, fun v q => nomatch q⟩
    · exact ⟨_, hTO, fun v q => nomatch q⟩
    · exact ⟨o1, e1, fun v q => by rw [d1] at q; cases q⟩
    · exact ⟨o2, e2, fun v q => by rw [d2] at q; cases q⟩
  keep := by
    rintro i h h' ⟨hz, hTI, ⟨x, y, hTO⟩, q1, q2⟩ k
    exact ⟨k _ (by simp) _ hz, k _ (by simp) _ hTI, ⟨x, y, k _ (by simp) _ hTO⟩, q1.at fun o e => k _ (by simp) o e, q2.at fun o e => k _ (by simp) o e⟩
  item := by
    intro X hP hw hK hc i pins s σ H E I hf st hg
    subst hP hw hK
    obtain ⟨hz, hTI, ⟨x0, y0, hTO⟩, q1, q2⟩ := st
    obtain ⟨xs, ys, x, y, hqx, hqy, hsz, hx, hy⟩ := hg
    obtain ⟨its, rv, p, _⟩ := I.list hqx
    obtain ⟨its2, rv2, p2, _⟩ := I.tuple hqy
    obtain ⟨u, hu, ru⟩ := rv.get hx
    obtain ⟨u2, hu2, ru2⟩ := rv2.get hy
    have zl : z < s.heap.objs.size := Heap.lt_size hz
    have l1 := rv.length
    have l2 := rv2.length
    have eu : its.toArray[i]? = some u := by simpa using hu
    have eu2 : its2.toArray[i]? = some u2 := by simpa using hu2
    refine zipN_next (s := s) (I.ok.hd hc) D hz hTI hTO q1 q2 p.isList (show s.heap.IsTuple b its2.toArray from p2) (by simp only [List.size_toArray]; omega) (fun x' y' e1 e2 g a1 a2 a3 a4 a5 k => ?_) (fun e => by rw [eu] at e; cases e)
    rw [eu] at e1
    rw [eu2] at e2
    cases e1
    cases e2
    refine ⟨_, rfl, wpAny_letOwnedTupleGo_zip (s := { s with heap := g }) a1 fun g2 z2 sb => ?_⟩
    have hT2 : IsPair g2 s.heap.objs.size u u2 := Eq.trans (sb.2 _ (Nat.ne_of_gt zl)) a4
    have new : ObjOk X.prog X.w (upd H s.heap.objs.size (.tup [x, y])) g2 s.heap.objs.size (.tup [x, y]) := ⟨Nat.le_trans (by decide : 2 ≤ 1000) (by decide), [u, u2], .cons ru (.cons ru2 .nil), ⟨_, hT2, rfl, _, rfl⟩⟩
    have out : ∀ {c o}, c ∉ [z, TI, TO, i1, i2] → s.heap.get? c = some o → g2.get? c = some o := fun {c o} hb e => by
      simp only [List.mem_cons, List.not_mem_nil, or_false, not_or] at hb
      exact Eq.trans (sb.2 _ hb.1) (k _ _ hb.1 hb.2.2.1 hb.2.2.2.1 hb.2.2.2.2 e)
    have I1 : Inv X pins σ (upd H s.heap.objs.size (.tup [x, y])) { s with heap := g2 } := I.turnedNew (t' := s.toks) (ch := [z, TI, TO, i1, i2]) (fun c o hb e => out hb e) hf (Nat.le_refl _) new
    refine ⟨.ref s.heap.objs.size, _, I1, rfl, ⟨_, x, y, rfl, I.hok.fresh (Nat.le_refl _), rfl, fun l hl => by rw [I.list_inj hl hqx]; exact hx, fun l hl => by rw [I.tuple_inj hl hqy]; exact hy⟩, ⟨z2, ?_, ⟨u, u2, ?_⟩, ?_, ?_⟩, fun c hcm => ?_⟩
    · exact Eq.trans (sb.2 _ D.TIz) (k _ _ D.TIz D.TITO D.TIi1 D.TIi2 hTI)
    · exact Eq.trans (sb.2 _ D.TOz) a5
    · exact a2.at fun o e => Eq.trans (sb.2 _ D.i1z) e
    · exact a3.at fun o e => Eq.trans (sb.2 _ D.i2z) e
    · have hlt : c < s.heap.objs.size := by
        obtain ⟨_, e1, _⟩ := q1
        obtain ⟨_, e2, _⟩ := q2
        rcases mem_fp5 hcm with rfl | rfl | rfl | rfl | rfl
        · exact zl
        · exact Heap.lt_size hTI
        · exact Heap.lt_size hTO
        · exact Heap.lt_size e1
        · exact Heap.lt_size e2
      rw [upd_ne (Nat.ne_of_lt hlt)]
      exact (hf c hcm).1
  done := by
    intro X hP hw hK hc i pins s σ H E I hf st hg
    subst hP hw hK
    obtain ⟨hz, hTI, ⟨x0, y0, hTO⟩, q1, q2⟩ := st
    obtain ⟨xs, ys, hqx, hqy, hsz, hend⟩ := hg
    obtain ⟨its, rv, p, _⟩ := I.list hqx
    obtain ⟨its2, rv2, p2, _⟩ := I.tuple hqy
    have l1 := rv.length
    have l2 := rv2.length
    have he : its.toArray[i]? = none := Array.getElem?_eq_none (by simp only [List.size_toArray]; omega)
    refine zipN_next (s := s) (I.ok.hd hc) D hz hTI hTO q1 q2 p.isList (show s.heap.IsTuple b its2.toArray from p2) (by simp only [List.size_toArray]; omega) (fun x' y' e1 => by rw [he] at e1; cases e1) fun _ g k => ⟨rfl, ?_⟩
    refine I.turnedL (t' := s.toks) (ch := [z, TI, TO, i1, i2]) (fun c o hb e => ?_) hf
    simp only [List.mem_cons, List.not_mem_nil, or_false, not_or] at hb
    exact k _ _ hb.1 hb.2.2.1 hb.2.2.2.1 hb.2.2.2.2 e
  self := fun A i s Q E st h => wpAny_pyIter_zip st.1 h
def iZipN (K : PySem.W.Frag) (ta : TA) : TI := fun σ H R => ta σ H fun vs H1 => ∃ (a b : Addr) (xs ys : List V), vs = [.ref a, .ref b] ∧ SqL K H1 a xs ∧ SqT K H1 b ys ∧ R (ItzN K a b) H1
theorem pi_zipN {X : Cx} {K : PySem.W.Frag} (hK : X.K = K) {e e2 : Expr} {ta : TA} {p pos tp : Pos} {elts : List Expr} {kk : Nat} (hg : Gl X "zip") (hm : X.mg "zip" = none) (ha : PA X [e, e2] ta)
    (hs : starEach [e, e2] X.env = (false, eval e X.env) :: starEach [e2] X.env := by rfl) (hpl : (backTo pos (starEach [e2] X.env)).any (·.1) = false := by rfl) :
    PI X (.Tuple elts kk tp) (.Call (.Name "zip" p) [e, e2] [] pos) (iZipN K ta) := by
  subst hK
  refine ⟨fun pins s σ H R I h => ?_⟩
  refine PyProof.Rows.Call_ (ld_blt I hg hm PyProof.Rows.boot_zip (PyProof.Rows.callWith_type1 (thn (ha.run pos pins s σ H _ I h) fun us s1 ⟨vs, H1, I1, r1, q1⟩ => ?_) hs hpl))
  obtain ⟨a, b, xs, ys, ex, hqx, hqy, q⟩ := q1
  subst ex
  obtain ⟨u1, u2, eu, v1, v2⟩ := vals2 r1
  subst eu
  cases v1
  cases v2
  obtain ⟨its, rv, p1, _⟩ := I1.list hqx
  obtain ⟨its2, rv2, p2, _⟩ := I1.tuple hqy
  obtain ⟨o2, ho2, _⟩ := id p2
  have la : a < s1.heap.objs.size := p1.lt
  have lb : b < s1.heap.objs.size := Heap.lt_size ho2
  refine PySem.zip_begins2 (s := s1) (begins_list a its.toArray) (begins_tuple b its2.toArray) p1.isList (show s1.heap.IsTuple b its2.toArray from p2) fun h' hz hTI hTO g1 g2 hsz hk => wpAny_pyIter_zip hz ?_
  have I2 : Inv X pins σ H1 { s1 with heap := h' } := I1.kept (t' := s1.toks) hk
  refine ⟨s1.heap.objs.size + 4, [s1.heap.objs.size + 4, s1.heap.objs.size + 2, s1.heap.objs.size + 3, s1.heap.objs.size, s1.heap.objs.size + 1], _, _, H1, rfl, I2, turn_zipN (PySem.W.ktu_apart s1.heap.objs.size a b la lb), ⟨hz, hTI, ⟨_, _, hTO⟩, ⟨_, g1, rfl, rfl⟩, ⟨_, g2, rfl, rfl⟩⟩, fun c hcm => ?_, q⟩
  have hle : s1.heap.objs.size ≤ c := by
    rcases mem_fp5 hcm with rfl | rfl | rfl | rfl | rfl
    · exact Nat.le_add_right _ _
    · exact Nat.le_add_right _ _
    · exact Nat.le_add_right _ _
    · exact Nat.le_refl _
    · exact Nat.le_add_right _ _
  exact I1.fpOk hle (I1.hok.fresh hle)
/-- a comprehension over it -/
theorem lc_zipN {K : PySem.W.Frag} {a b : Addr} {xs ys : List V} {g : TG} {tt : TT} {te : TE} {vs : List Nat} {σ : L2.St} {H1 : Hp} {D : Addr} {Qd : Hp → Prop} (hsz : xs.length = ys.length) (Pv : Nat → Hp → Prop) (h0 : Pv 0 (upd H1 D (.lst []))) (hl : ∀ i H, Pv i H → SqL K H a xs ∧ SqT K H b ys)
    (hs : ∀ i x y T H, xs[i]? = some x → ys[i]? = some y → Pv i H → H T = none → g (.ref T) (wipe σ vs) (upd H T (.tup [x, y])) fun σ2 H2 => wipe σ2 vs = wipe σ vs ∧ tt σ2 H2 fun b H3 =>
      if b = true then te σ2 H3 fun y H4 => ∃ acc, H4 D = some (.lst acc) ∧ acc.length < sizeLine ∧ Pv (i + 1) (upd H4 D (.lst (acc ++ [y]))) else Pv (i + 1) H3) (hd : ∀ H, Pv xs.length H → Qd H) :
    ∃ W : Nat → Nat → Hp → Prop, (∃ m, W 0 m (upd H1 D (.lst []))) ∧ ∀ i m H, W i m H →
      ((ItzN K a b).stop i H ∧ Qd H) ∨ ((ItzN K a b).go i H ∧ ∃ Nx : Hp → Prop, (∀ H', Nx H' → ∃ m', m' < m ∧ W (i + 1) m' H') ∧ ∀ x H', (ItzN K a b).yld i H x H' → g x (wipe σ vs) H' fun σ2 H2 => wipe σ2 vs = wipe σ vs ∧ tt σ2 H2 fun b H3 =>
        if b = true then te σ2 H3 fun y H4 => ∃ acc, H4 D = some (.lst acc) ∧ acc.length < sizeLine ∧ Nx (upd H4 D (.lst (acc ++ [y]))) else Nx H3) := by
  refine ⟨fun i m H => m = xs.length - i ∧ i ≤ xs.length ∧ Pv i H, ⟨_, rfl, Nat.zero_le _, h0⟩, ?_⟩
  rintro i m H ⟨rfl, hi, p⟩
  obtain ⟨qx, qy⟩ := hl i H p
  by_cases hlt : i < xs.length
  · have hx := List.getElem?_eq_getElem hlt
    have hy := List.getElem?_eq_getElem (show i < ys.length by omega)
    refine .inr ⟨⟨xs, ys, _, _, qx, qy, hsz, hx, hy⟩, Pv (i + 1), fun H' p' => ⟨xs.length - (i + 1), by omega, rfl, hlt, p'⟩, fun v H' yl => ?_⟩
    obtain ⟨T, x', y', rfl, hT, rfl, f1, f2⟩ := yl
    exact hs i x' y' T H (f1 xs qx) (f2 ys qy) p hT
  · obtain rfl : i = xs.length := by omega
    exact .inl ⟨⟨xs, ys, qx, qy, hsz, Nat.le_refl _⟩, hd H p⟩
end NL
/-! comprehensions over zip(list, tuple) of texts, told by data -/
namespace NL
open PySem L2 Evl
section
variable {K : PySem.W.Frag} {σ : L2.St} {H0 : Hp}
theorem DL.lcN {te tf tw : TE} {i j : Nat} {ids : List Nat} {ws ks : List Str} {g : Str × Str → PyData} (h : DL K σ H0 te (ws.map PyData.str)) (h2 : DE K σ H0 tf (.tuple (ks.map PyData.str))) (hsz : ws.length = ks.length) (hl : ws.length ≤ 1000) (hto : ∀ p, tupOnly (g p) = true)
    (hw : ∀ (x y : Str), wipe (((wipe σ ids).set i (some (.str x))).set j (some (.str y))) ids = wipe σ ids) (ht : ∀ x y H1, Ex H0 H1 → (x, y) ∈ ws.zip ks → DE K (((wipe σ ids).set i (some (.str x))).set j (some (.str y))) H1 tw (g (x, y))) :
    DL K σ H0 (tLc (iZipN K (tCons te (tCons tf tNil))) (gTup K 2 (gCons (gName i) (gCons (gName j) gNil))) tYes tw ids) ((ws.zip ks).map g) := fun H Q e q =>
  h H _ e fun p vs H1 e1 hp dy => h2 H1 _ (e.trans e1) fun v H2 e2 dy2 => by
    obtain rfl := dya_strs dy
    cases dy2 with
    | tup hs ha =>
      obtain rfl := dya_strs ha
      have hp2 := e2 _ _ hp
      refine ⟨p, _, _, _, rfl, sq_of hp2, hs, fun D hD => ?_⟩
      refine lc_zipN (K := K) (xs := ws.map V.str) (ys := ks.map V.str) (by rw [List.length_map, List.length_map, hsz]) (fun n H' => Ex H2 H' ∧ ∃ us, H' D = some (.lst us) ∧ DyAll K H' us (((ws.zip ks).take n).map g)) ⟨Ex.new hD, [], upd_same, .nil⟩ (fun n H' hP => ⟨sq_of (hP.1 _ _ hp2), ex_t hP.1 hs⟩) ?_ ?_
      · rintro n x y T H3 hx hy ⟨e3, us, hacc, dys⟩ hT
        rw [List.getElem?_map] at hx hy
        obtain ⟨x', hx', rfl⟩ := Option.map_eq_some_iff.mp hx
        obtain ⟨y', hy', rfl⟩ := Option.map_eq_some_iff.mp hy
        have e4 := Ex.new (o := .tup [V.str x', .str y']) hT
        have hz : (ws.zip ks)[n]? = some (x', y') := List.getElem?_zip_eq_some.mpr ⟨hx', hy'⟩
        refine ⟨T, _, rfl, st_of upd_same, rfl, _, _, rfl, _, _, rfl, rfl, hw x' y', tYesQ ?_⟩
        refine ht x' y' _ ((((e.trans e1).trans e2).trans e3).trans e4) (List.mem_of_getElem? hz) _ _ (Ex.refl _) fun v H5 e5 dv => ?_
        have acc5 := (e4.trans e5) _ _ hacc
        have ul := dya_ln dys
        rw [List.length_map, List.length_take] at ul
        have nl : n < ws.length := (List.getElem?_eq_some_iff.mp hx').1
        refine ⟨us, acc5, sz_lt (by rw [List.length_zip] at ul; omega), Ex.mut (e3.trans (e4.trans e5)) hD, us ++ [v], upd_same, ?_⟩
        rw [take_oneS hz, List.map_append]
        exact dya_app (dya_st (ST.lst acc5) _ _ (tos_map hto _) (dya_mono (e4.trans e5) dys)) (.cons (dy_st (ST.lst acc5) _ _ (hto _) dv) .nil)
      · rintro H3 ⟨e3, us, hacc, dys⟩
        rw [List.length_map, show (ws.zip ks).take ws.length = ws.zip ks from List.take_of_length_le (by rw [List.length_zip]; omega)] at dys
        exact q D us H3 ((e1.trans e2).trans e3) hacc dys
theorem tup_turnsN {a : Addr} {xs : List V} {g : TG} {tb tz : TS} {D : Ends} {H : Hp} (Pv : Nat → L2.St → Hp → Prop) (h0 : Pv 0 σ H) (hl : ∀ i σ H, i ≤ xs.length → Pv i σ H → SqT K H a xs)
    (hs : ∀ i x σ H, xs[i]? = some x → Pv i σ H → g x σ H fun σ2 H2 => tb { D with nx := Pv (i + 1), ct := Pv (i + 1), bk := tz D } σ2 H2) (hd : ∀ σ H, Pv xs.length σ H → tz D σ H) :
    ∃ W : Nat → Nat → L2.St → Hp → Prop, (∃ m, W 0 m σ H) ∧ ∀ i m σ H, W i m σ H →
      ((Itt K a).stop i H ∧ tz D σ H) ∨ ((Itt K a).go i H ∧ ∃ N : L2.St → Hp → Prop, (∀ σ' H', N σ' H' → ∃ m', m' < m ∧ W (i + 1) m' σ' H') ∧ ∀ x H', (Itt K a).yld i H x H' → g x σ H' fun σ2 H2 => tb { D with nx := N, ct := N, bk := tz D } σ2 H2) :=
  for_tup (D := { D with nx := tz D }) Pv h0 hl hs hd
/-- a truth of it -/
theorem DE.bl {te : TE} {b : Bool} (h : Ev te σ H0 (.bl b)) : DE K σ H0 te (.bool b) := fun H Q e q => h H e _ fun H2 e2 => q _ H2 e2 (.bl b)
theorem DE.of {te : TE} {v : V} {d : PyData} (h : Ev te σ H0 v) (dy : Dy K H0 v d) : DE K σ H0 te d := fun H Q e q => h H e _ fun H2 e2 => q _ H2 e2 (dy_mono (e.trans e2) dy)
/-- all(..) of truths -/
theorem dya_bls {H : Hp} : ∀ {vs : List V} {bs : List Bool}, DyAll K H vs (bs.map PyData.bool) → vs = bs.map V.bl
  | [], [], _ => rfl
  | _, b :: bs, h => by
    cases h with
    | cons a r =>
      cases a
      rw [dya_bls r]
      rfl
theorem ev_allD {te : TE} {bs : List Bool} (h : DL K σ H0 te (bs.map PyData.bool)) : Ev (tCB (rAll K) (tCons te tNil)) σ H0 (.bl (bs.all id)) := fun H1 e Q q =>
  h H1 _ e fun p vs H2 e2 hp dy => by
    obtain rfl := dya_bls dy
    exact ⟨p, bs, rfl, sq_of hp, q H2 e2⟩
theorem tos_mem : ∀ {ds : List PyData}, (∀ d ∈ ds, tupOnly d = true) → tupOnlys ds = true
  | [], _ => rfl
  | d :: ds, h => by
    show (tupOnly d && tupOnlys ds) = true
    rw [h d (by simp), tos_mem fun z hz => h z (List.mem_cons_of_mem _ hz)]
    rfl
/-- a comprehension over a tuple, some of its items -/
theorem DL.lcT {te tw : TE} {tt : TT} {i : Nat} {ids : List Nat} {ds : List PyData} {f : PyData → Bool} {g : PyData → PyData} (h : DE K σ H0 te (.tuple ds)) (hl : ds.length ≤ 50000) (hto : ∀ d ∈ ds, f d = true → tupOnly (g d) = true)
    (hw : ∀ v : V, wipe ((wipe σ ids).set i (some v)) ids = wipe σ ids) (ht : ∀ v d H1, Ex H0 H1 → d ∈ ds → Dy K H1 v d → EvT tt ((wipe σ ids).set i (some v)) H1 (f d)) (he : ∀ v d H1, Ex H0 H1 → d ∈ ds → f d = true → Dy K H1 v d → DE K ((wipe σ ids).set i (some v)) H1 tw (g d)) :
    DL K σ H0 (tLc (iTup K te) (gName i) tt tw ids) ((ds.filter f).map g) := fun H Q e q =>
  h H _ e fun v H1 e1 dy => by
    cases dy with
    | tup hs ha =>
      rename_i a xs
      have vl := dya_ln ha
      refine ⟨a, rfl, ⟨_, hs⟩, fun D hD => ?_⟩
      refine lc_tup (K := K) (a := a) (xs := xs) (fun n H' => Ex H1 H' ∧ ∃ us, H' D = some (.lst us) ∧ DyAll K H' us (((ds.take n).filter f).map g)) ⟨Ex.new hD, [], upd_same, .nil⟩ (fun n H' _ hP => ex_t hP.1 hs) ?_ ?_
      · rintro n x H2 hx ⟨e2, us, hacc, dys⟩
        obtain ⟨d, h1, h2⟩ := dya_get (dya_mono e2 ha) hx
        have dm := List.mem_of_getElem? h1
        have e02 := (e.trans e1).trans e2
        refine ⟨hw x, ht x d H2 e02 dm h2 H2 (Ex.refl H2) _ fun H3 e3 => ?_⟩
        by_cases c : f d = true
        · rw [if_pos c]
          refine he x d H3 (e02.trans e3) dm c (dy_mono e3 h2) H3 _ (Ex.refl H3) fun v H4 e4 dv => ?_
          have acc4 := (e3.trans e4) _ _ hacc
          have ul := dya_ln dys
          have ul2 : ((ds.take n).filter f).length ≤ 50000 := Nat.le_trans (List.length_filter_le _ _) (by rw [List.length_take]; omega)
          have tos : tupOnlys (((ds.take n).filter f).map g) = true := tos_mem fun z hz => by
            obtain ⟨w, hw, rfl⟩ := List.mem_map.mp hz
            have := List.mem_filter.mp hw
            exact hto w (List.mem_of_mem_take this.1) this.2
          refine ⟨us, acc4, sz_lt (by rw [ul, List.length_map]; omega), Ex.mut (e2.trans (e3.trans e4)) hD, us ++ [v], upd_same, ?_⟩
          rw [take_oneS h1, List.filter_append, List.filter_cons_of_pos c, List.filter_nil, List.map_append]
          exact dya_app (dya_st (ST.lst acc4) _ _ tos (dya_mono (e3.trans e4) dys)) (.cons (dy_st (ST.lst acc4) _ _ (hto d dm c) dv) .nil)
        · rw [if_neg c]
          refine ⟨e2.trans e3, us, e3 _ _ hacc, ?_⟩
          rw [take_oneS h1, List.filter_append, List.filter_cons_of_neg c, List.filter_nil, List.append_nil]
          exact dya_mono e3 dys
      · rintro H2 ⟨e2, us, hacc, dys⟩
        rw [vl, List.take_length] at dys
        exact q D us H2 (e1.trans e2) hacc dys
theorem sum_len {B : Nat} : ∀ {ys : List Str}, (∀ y ∈ ys, y.length ≤ B) → (ys.map (·.length)).sum ≤ ys.length * B
  | [], _ => Nat.zero_le _
  | y :: ys, h => by
    have h1 := h y (by simp)
    have h2 := sum_len (B := B) (ys := ys) fun z hz => h z (List.mem_cons_of_mem _ hz)
    simp only [List.map_cons, List.sum_cons, List.length_cons]
    rw [Nat.add_mul]
    omega
theorem ev_joinD {a : Str} {te : TE} {ys : List Str} (h : DL K σ H0 te (ys.map PyData.str)) (hz : (ys.map (·.length)).sum + ys.length * a.length ≤ 16777216) :
    Ev (tM1 (fun x xs H Q => ∃ a p, ∃ ys : List Str, x = .str a ∧ xs = [.ref p] ∧ (SqL K H p (ys.map V.str) ∨ SqT K H p (ys.map V.str)) ∧ (ys.map (·.length)).sum + ys.length * a.length ≤ 16777216 ∧ Q (.str (Txt.join a ys)) H) (tC (.str a)) te) σ H0 (.str (Txt.join a ys)) := fun H1 e Q q =>
  ⟨⟨a, rfl⟩, h H1 _ e fun p vs H2 e2 hp dy => by
    obtain rfl := dya_strs dy
    exact ⟨a, p, ys, rfl, rfl, Or.inl (sq_of hp), hz, q H2 e2⟩⟩
end
end NL
namespace NL
open PySem L2 Evl
/-- for i, x in enumerate(list) -/
theorem enum_turns {K : PySem.W.Frag} {σ : L2.St} {a : Addr} {xs : List V} {g : TG} {tb tz : TS} {D : Ends} {H : Hp} (Pv : Nat → L2.St → Hp → Prop) (h0 : Pv 0 σ H) (hl : ∀ i σ H, i ≤ xs.length → Pv i σ H → SqL K H a xs)
    (hs : ∀ i x T σ H, xs[i]? = some x → Pv i σ H → H T = none → g (.ref T) σ (upd H T (.tup [.int (i : Int), x])) fun σ2 H2 => tb { D with nx := Pv (i + 1), ct := Pv (i + 1), bk := tz D } σ2 H2) (hd : ∀ σ H, Pv xs.length σ H → tz D σ H) :
    ∃ W : Nat → Nat → L2.St → Hp → Prop, (∃ m, W 0 m σ H) ∧ ∀ i m σ H, W i m σ H →
      ((Ite K a).stop i H ∧ tz D σ H) ∨ ((Ite K a).go i H ∧ ∃ N : L2.St → Hp → Prop, (∀ σ' H', N σ' H' → ∃ m', m' < m ∧ W (i + 1) m' σ' H') ∧ ∀ x H', (Ite K a).yld i H x H' → g x σ H' fun σ2 H2 => tb { D with nx := N, ct := N, bk := tz D } σ2 H2) := by
  refine ⟨fun i m σ H => m = xs.length - i ∧ i ≤ xs.length ∧ Pv i σ H, ⟨_, rfl, Nat.zero_le _, h0⟩, ?_⟩
  rintro i m σ H ⟨rfl, hi, p⟩
  have q := hl i σ H hi p
  by_cases hlt : i < xs.length
  · have hx := List.getElem?_eq_getElem hlt
    refine .inr ⟨⟨xs, _, q, hx⟩, Pv (i + 1), fun σ' H' p' => ⟨xs.length - (i + 1), by omega, rfl, hlt, p'⟩, fun v H' yl => ?_⟩
    obtain ⟨T, x', rfl, hT, rfl, f1⟩ := yl
    exact hs i x' T σ H (f1 xs q) p hT
  · obtain rfl : i = xs.length := by omega
    exact .inl ⟨⟨xs, q, Nat.le_refl _⟩, hd σ H p⟩
end NL
/-! repr of data deeper than 64 -/
namespace NL
open PySem PySem.Spec PyProof.Rows L2 Evl
def showsZ (d : PyData) : Prop := d.showable = true ∧ d.depth ≤ 300 ∧ d.shown.length ≤ 10000000
def rReprZ (K : PySem.W.Frag) : List V → Hp → VK → Prop := fun xs H Q => ∃ v d, xs = [v] ∧ Dy K H v d ∧ showsZ d ∧ Sy K H ∧ Q (.str d.shown) H
theorem reprZK {X : Cx} {K : PySem.W.Frag} (h : X.K = K) (quiet : X.A.guards = some []) (room : X.A.units + 340 < cLine) : CallR X (.builtin "repr") (rReprZ K) := by
  subst h
  intro pins s σ H xs us Q I rel told
  obtain ⟨v, d, rfl, data, ⟨s1, s3, s4⟩, y, q⟩ := told
  obtain ⟨u, rfl, ru⟩ := vals1 rel
  have s5 : d.shown.length ≤ sizeLine := Nat.le_trans s4 (by decide)
  have fin : ∀ (s' : Shared) (t : Tok), Inv X pins σ H s' → EP X pins σ Q (.str d.shown t) s' := fun s' t I' => ⟨.str d.shown, H, I', ⟨t, rfl⟩, q⟩
  have heap : ∀ a, u = .ref a → wpAny (model X.prog X.w) X.A (call (.builtin "repr") [u]) (EP X pins σ Q) X.xe s := by
    rintro a rfl
    obtain ⟨as, reads, no⟩ := Dy.reads I y d v _ data ru
    exact repr_of_reads' reads s1 (fun _ => no) quiet (by omega) (fun b o e => e) (fun h' u tk kept => fin _ _ (I.kept kept)) s5
  cases data with
  | non =>
    cases ru
    refine PySem.P.repr_of_none ?_
    have := fin { s with toks := s.toks + 1 } s.toks (I.tok _)
    simp only [PyData.shown] at this
    exact this
  | bl b =>
    cases ru
    refine PySem.P.repr_of_bool ?_
    have := fin { s with toks := s.toks + 1 } s.toks (I.tok _)
    simp only [PyData.shown] at this
    exact this
  | int i =>
    obtain ⟨t, rfl⟩ := ru
    refine PySem.P.repr_of_int (by simpa [PyData.showable] using s1) ?_
    have := fin { s with toks := s.toks + 1 } s.toks (I.tok _)
    simp only [PyData.shown] at this
    exact this
  | str x =>
    obtain ⟨t, rfl⟩ := ru
    simp only [PyData.shown] at s5
    refine PySem.P.repr_of_str ?_ s5
    have := fin { s with toks := s.toks + 1 } s.toks (I.tok _)
    simp only [PyData.shown] at this
    exact this
  | lst _ _ => cases ru; exact heap _ rfl
  | tup _ _ => cases ru; exact heap _ rfl
  | dct _ => cases ru; exact heap _ rfl
  | dc1 _ _ => cases ru; exact heap _ rfl
end NL
/-! one sign many times -/
namespace NL
open PySem PySem.Spec PyProof.Rows L2 Evl
def rMulS : R2 := fun x y H Q => ∃ (c : Nat) (n : Int), x = V.str ⟨#[c]⟩ ∧ y = V.int n ∧ 1 ≤ n ∧ n ≤ 10000 ∧ Q (.str (Txt.mul ⟨#[c]⟩ n)) H
theorem op_mulS {X : Cx} : OpR X (binaryOp .Mult) rMulS := by
  intro pins s σ H x y v u Q I rx ry h
  obtain ⟨c, n, rfl, rfl, h1, h2, q⟩ := h
  obtain ⟨t, rfl⟩ := rx
  obtain ⟨t', rfl⟩ := ry
  refine PySem.SB.mul ⟨?_, fun _ _ => ?_, fun _ _ => ?_⟩ fun t' k => ⟨.str _, H, I.tok _, ⟨_, rfl⟩, q⟩
  · rw [Bool.or_eq_false_iff]
    exact ⟨decide_eq_false (by omega), decide_eq_false (by omega)⟩
  · have h3 : (1 : Int) ≤ (2 ^ 63 - 1) / n := by
      rw [Int.le_ediv_iff_mul_le (by omega)]
      omega
    show ¬ (((⟨#[c]⟩ : Str).length : Int) > (2 ^ 63 - 1) / n)
    rw [show ((⟨#[c]⟩ : Str).length : Int) = 1 from rfl]
    omega
  · have e : (⟨#[c]⟩ : Str).length * n.toNat = n.toNat := by
      rw [show (⟨#[c]⟩ : Str).length = 1 from rfl, Nat.one_mul]
    rw [e]
    unfold Builtin.Str.tooLong
    refine decide_eq_false ?_
    have h3 : n.toNat ≤ 10000 := by omega
    exact fun z => absurd (Nat.lt_of_lt_of_le z h3) (by decide)
end NL
namespace K90
open PySem L2 Evl NL
def top (i : Nat) : Stmt := PySem.Challenge.pw_nearlocks_k90_book_texts_spoilt_anywhere.main.body.getD i (.Pass ⟨0, 0, 0, 0⟩)
abbrev s_is_letters : Stmt := top 19
abbrev s_is_number : Stmt := top 20
abbrev s_is_signed : Stmt := top 21
abbrev s_read_words : Stmt := top 23
abbrev s_has_form : Stmt := top 24
abbrev s_word_fits_forms : Stmt := top 25
abbrev s_read_word : Stmt := top 27
abbrev s_is_whole : Stmt := top 29
abbrev s_is_whole_from : Stmt := top 30
abbrev s_is_tuple_of : Stmt := top 31
abbrev s_is_name : Stmt := top 35
abbrev s_is_plan : Stmt := top 36
abbrev s_member_fits : Stmt := top 37
abbrev s_has_group_form : Stmt := top 38
abbrev s_hands_of : Stmt := top 39
abbrev s_all_in : Stmt := top 40
abbrev s_all_from : Stmt := top 41
abbrev s_is_row_number : Stmt := top 44
abbrev s_word_fits_programs : Stmt := top 45
abbrev s_take_fits : Stmt := top 47
abbrev s_say_fits : Stmt := top 48
abbrev s_goto_fits : Stmt := top 49
abbrev s_if_fits : Stmt := top 50
abbrev s_is_program : Stmt := top 52
abbrev s_row_fits : Stmt := top 53
abbrev s_is_book : Stmt := top 54
abbrev s_pair_fits : Stmt := top 55
abbrev s_rows_of : Stmt := top 58
abbrev s_read_book : Stmt := top 59
abbrev s_program_row : Stmt := top 60
abbrev s__law_hand : Stmt := top 62
abbrev s__law_pick : Stmt := top 63
abbrev s__law_of : Stmt := top 64
abbrev s__law_names : Stmt := top 65
abbrev s__law_group : Stmt := top 66
abbrev s__law_sizes : Stmt := top 67
abbrev s__law_plan : Stmt := top 68
abbrev s__law_row : Stmt := top 69
abbrev s__law_program : Stmt := top 70
abbrev s__law_book : Stmt := top 71
abbrev s__law_hands : Stmt := top 72
abbrev s__law_book_text : Stmt := top 73
abbrev s__law_words_changed : Stmt := top 74
abbrev s__law_sign_changed : Stmt := top 75
abbrev s__law_spoilt : Stmt := top 76
abbrev s__law_count : Stmt := top 77
abbrev s__law_letters : Stmt := top 78
abbrev s__law_class : Stmt := top 79
abbrev s__law_told : Stmt := top 80
abbrev s__law_form : Stmt := top 81
abbrev s__law_due : Stmt := top 82
abbrev s__law_figures_right : Stmt := top 83
abbrev s_law : Stmt := top 84
abbrev s_NoText___init__ : Stmt := inClass (top 3) 0
abbrev N_is_letters : List Str := ["word", "sign"]
theorem sc_is_letters : FnScope N_is_letters ["word"] (defScope s_is_letters) := ⟨rfl, rfl, rfl, by decide +kernel, rfl, by decide +kernel, by decide +kernel⟩
abbrev N_is_number : List Str := ["word", "sign"]
theorem sc_is_number : FnScope N_is_number ["word"] (defScope s_is_number) := ⟨rfl, rfl, rfl, by decide +kernel, rfl, by decide +kernel, by decide +kernel⟩
abbrev N_is_signed : List Str := ["word"]
theorem sc_is_signed : FnScope N_is_signed ["word"] (defScope s_is_signed) := ⟨rfl, rfl, rfl, by decide +kernel, rfl, by decide +kernel, by decide +kernel⟩
abbrev N_read_words : List Str := ["row", "forms", "words", "form", "word", "kind"]
theorem sc_read_words : FnScope N_read_words ["row", "forms"] (defScope s_read_words) := ⟨rfl, rfl, rfl, by decide +kernel, rfl, by decide +kernel, by decide +kernel⟩
abbrev N_has_form : List Str := ["words", "form", "word", "kind"]
theorem sc_has_form : FnScope N_has_form ["words", "form"] (defScope s_has_form) := ⟨rfl, rfl, rfl, by decide +kernel, rfl, by decide +kernel, by decide +kernel⟩
abbrev N_word_fits_forms : List Str := ["word", "kind", "fits"]
theorem sc_word_fits_forms : FnScope N_word_fits_forms ["word", "kind"] (defScope s_word_fits_forms) := ⟨rfl, rfl, rfl, by decide +kernel, rfl, by decide +kernel, by decide +kernel⟩
abbrev N_read_word : List Str := ["word", "kind"]
theorem sc_read_word : FnScope N_read_word ["word", "kind"] (defScope s_read_word) := ⟨rfl, rfl, rfl, by decide +kernel, rfl, by decide +kernel, by decide +kernel⟩
abbrev N_is_whole : List Str := ["thing"]
theorem sc_is_whole : FnScope N_is_whole ["thing"] (defScope s_is_whole) := ⟨rfl, rfl, rfl, by decide +kernel, rfl, by decide +kernel, by decide +kernel⟩
abbrev N_is_whole_from : List Str := ["thing", "least"]
theorem sc_is_whole_from : FnScope N_is_whole_from ["thing", "least"] (defScope s_is_whole_from) := ⟨rfl, rfl, rfl, by decide +kernel, rfl, by decide +kernel, by decide +kernel⟩
abbrev N_is_tuple_of : List Str := ["thing", "many"]
theorem sc_is_tuple_of : FnScope N_is_tuple_of ["thing", "many"] (defScope s_is_tuple_of) := ⟨rfl, rfl, rfl, by decide +kernel, rfl, by decide +kernel, by decide +kernel⟩
abbrev N_is_name : List Str := ["thing"]
theorem sc_is_name : FnScope N_is_name ["thing"] (defScope s_is_name) := ⟨rfl, rfl, rfl, by decide +kernel, rfl, by decide +kernel, by decide +kernel⟩
abbrev N_is_plan : List Str := ["thing", "seen", "waiting", "member"]
theorem sc_is_plan : FnScope N_is_plan ["thing"] (defScope s_is_plan) := ⟨rfl, rfl, rfl, by decide +kernel, rfl, by decide +kernel, by decide +kernel⟩
abbrev N_member_fits : List Str := ["thing", "seen", "name"]
theorem sc_member_fits : FnScope N_member_fits ["thing", "seen"] (defScope s_member_fits) := ⟨rfl, rfl, rfl, by decide +kernel, rfl, by decide +kernel, by decide +kernel⟩
abbrev N_has_group_form : List Str := ["thing", "name", "bound", "members"]
theorem sc_has_group_form : FnScope N_has_group_form ["thing"] (defScope s_has_group_form) := ⟨rfl, rfl, rfl, by decide +kernel, rfl, by decide +kernel, by decide +kernel⟩
abbrev N_hands_of : List Str := ["plan", "name", "bound", "path"]
theorem sc_hands_of : FnScope N_hands_of ["plan"] (defScope s_hands_of) := ⟨rfl, rfl, rfl, by decide +kernel, rfl, by decide +kernel, by decide +kernel⟩
abbrev N_all_in : List Str := ["plan"]
theorem sc_all_in : FnScope N_all_in ["plan"] (defScope s_all_in) := ⟨rfl, rfl, rfl, by decide +kernel, rfl, by decide +kernel, by decide +kernel⟩
abbrev N_all_from : List Str := ["group", "around", "name", "bound", "members", "rows", "inside", "member"]
theorem sc_all_from : FnScope N_all_from ["group", "around"] (defScope s_all_from) := ⟨rfl, rfl, rfl, by decide +kernel, rfl, by decide +kernel, by decide +kernel⟩
abbrev N_is_row_number : List Str := ["thing", "many"]
theorem sc_is_row_number : FnScope N_is_row_number ["thing", "many"] (defScope s_is_row_number) := ⟨rfl, rfl, rfl, by decide +kernel, rfl, by decide +kernel, by decide +kernel⟩
abbrev N_word_fits_programs : List Str := ["row", "many"]
theorem sc_word_fits_programs : FnScope N_word_fits_programs ["row", "many"] (defScope s_word_fits_programs) := ⟨rfl, rfl, rfl, by decide +kernel, rfl, by decide +kernel, by decide +kernel⟩
abbrev N_take_fits : List Str := ["row", "many"]
theorem sc_take_fits : FnScope N_take_fits ["row", "many"] (defScope s_take_fits) := ⟨rfl, rfl, rfl, by decide +kernel, rfl, by decide +kernel, by decide +kernel⟩
abbrev N_say_fits : List Str := ["row", "many"]
theorem sc_say_fits : FnScope N_say_fits ["row", "many"] (defScope s_say_fits) := ⟨rfl, rfl, rfl, by decide +kernel, rfl, by decide +kernel, by decide +kernel⟩
abbrev N_goto_fits : List Str := ["row", "many"]
theorem sc_goto_fits : FnScope N_goto_fits ["row", "many"] (defScope s_goto_fits) := ⟨rfl, rfl, rfl, by decide +kernel, rfl, by decide +kernel, by decide +kernel⟩
abbrev N_if_fits : List Str := ["row", "many"]
theorem sc_if_fits : FnScope N_if_fits ["row", "many"] (defScope s_if_fits) := ⟨rfl, rfl, rfl, by decide +kernel, rfl, by decide +kernel, by decide +kernel⟩
abbrev N_is_program : List Str := ["thing", "row"]
theorem sc_is_program : FnScope N_is_program ["thing"] (defScope s_is_program) := ⟨rfl, rfl, rfl, by decide +kernel, rfl, by decide +kernel, by decide +kernel⟩
abbrev N_row_fits : List Str := ["row", "many", "word", "fits"]
theorem sc_row_fits : FnScope N_row_fits ["row", "many"] (defScope s_row_fits) := ⟨rfl, rfl, rfl, by decide +kernel, rfl, by decide +kernel, by decide +kernel⟩
abbrev N_is_book : List Str := ["plan", "thing", "name", "program", "pair"]
theorem sc_is_book : FnScope N_is_book ["plan", "thing"] (defScope s_is_book) := ⟨rfl, rfl, rfl, by decide +kernel, rfl, by decide +kernel, by decide +kernel⟩
abbrev N_pair_fits : List Str := ["pair"]
theorem sc_pair_fits : FnScope N_pair_fits ["pair"] (defScope s_pair_fits) := ⟨rfl, rfl, rfl, by decide +kernel, rfl, by decide +kernel, by decide +kernel⟩
abbrev N_rows_of : List Str := ["text"]
theorem sc_rows_of : FnScope N_rows_of ["text"] (defScope s_rows_of) := ⟨rfl, rfl, rfl, by decide +kernel, rfl, by decide +kernel, by decide +kernel⟩
abbrev N_read_book : List Str := ["plan", "text", "programs", "number", "row", "book", "words", "name", "rows"]
theorem sc_read_book : FnScope N_read_book ["plan", "text"] (defScope s_read_book) := ⟨rfl, rfl, rfl, by decide +kernel, rfl, by decide +kernel, by decide +kernel⟩
abbrev N_program_row : List Str := ["words"]
theorem sc_program_row : FnScope N_program_row ["words"] (defScope s_program_row) := ⟨rfl, rfl, rfl, by decide +kernel, rfl, by decide +kernel, by decide +kernel⟩
abbrev N__law_hand : List Str := ["_law_script", "_law_seed", "_law_cell"]
theorem sc__law_hand : FnScope N__law_hand ["_law_script"] (defScope s__law_hand) := ⟨rfl, rfl, rfl, by decide +kernel, rfl, by decide +kernel, by decide +kernel⟩
abbrev N__law_pick : List Str := ["_law_hand_here", "_law_many", "_law_mixed", "_law_digit"]
theorem sc__law_pick : FnScope N__law_pick ["_law_hand_here", "_law_many"] (defScope s__law_pick) := ⟨rfl, rfl, rfl, by decide +kernel, rfl, by decide +kernel, by decide +kernel⟩
abbrev N__law_of : List Str := ["_law_hand_here", "_law_some"]
theorem sc__law_of : FnScope N__law_of ["_law_hand_here", "_law_some"] (defScope s__law_of) := ⟨rfl, rfl, rfl, by decide +kernel, rfl, by decide +kernel, by decide +kernel⟩
abbrev N__law_names : List Str := ["_law_hand_here", "_law_stem", "_law_first", "_law_step", "_law_found", "_law_k", "_law_word", "_law_spot"]
theorem sc__law_names : FnScope N__law_names ["_law_hand_here"] (defScope s__law_names) := ⟨rfl, rfl, rfl, by decide +kernel, rfl, by decide +kernel, by decide +kernel⟩
abbrev N__law_group : List Str := ["_law_hand_here", "_law_names_here", "_law_deep", "_law_wide", "_law_bound", "_law_name", "_law_members", "_law_k"]
theorem sc__law_group : FnScope N__law_group ["_law_hand_here", "_law_names_here", "_law_deep", "_law_wide"] (defScope s__law_group) := ⟨rfl, rfl, rfl, by decide +kernel, rfl, by decide +kernel, by decide +kernel⟩
abbrev N__law_sizes : List Str := []
theorem sc__law_sizes : FnScope N__law_sizes [] (defScope s__law_sizes) := ⟨rfl, rfl, rfl, by decide +kernel, rfl, by decide +kernel, by decide +kernel⟩
abbrev N__law_plan : List Str := ["_law_hand_here", "_law_sizes_here", "_law_deep", "_law_wide"]
theorem sc__law_plan : FnScope N__law_plan ["_law_hand_here", "_law_sizes_here"] (defScope s__law_plan) := ⟨rfl, rfl, rfl, by decide +kernel, rfl, by decide +kernel, by decide +kernel⟩
abbrev N__law_row : List Str := ["_law_hand_here", "_law_size", "_law_word"]
theorem sc__law_row : FnScope N__law_row ["_law_hand_here", "_law_size"] (defScope s__law_row) := ⟨rfl, rfl, rfl, by decide +kernel, rfl, by decide +kernel, by decide +kernel⟩
abbrev N__law_program : List Str := ["_law_hand_here", "_law_upmost", "_law_size", "_law_k"]
theorem sc__law_program : FnScope N__law_program ["_law_hand_here", "_law_upmost"] (defScope s__law_program) := ⟨rfl, rfl, rfl, by decide +kernel, rfl, by decide +kernel, by decide +kernel⟩
abbrev N__law_book : List Str := ["_law_hand_here", "_law_plan_here", "_law_upmost", "_law_name"]
theorem sc__law_book : FnScope N__law_book ["_law_hand_here", "_law_plan_here", "_law_upmost"] (defScope s__law_book) := ⟨rfl, rfl, rfl, by decide +kernel, rfl, by decide +kernel, by decide +kernel⟩
abbrev N__law_hands : List Str := ["_law_plan_here", "_law_found", "_law_member"]
theorem sc__law_hands : FnScope N__law_hands ["_law_plan_here"] (defScope s__law_hands) := ⟨rfl, rfl, rfl, by decide +kernel, rfl, by decide +kernel, by decide +kernel⟩
abbrev N__law_book_text : List Str := ["_law_book_here", "_law_rows", "_law_name", "_law_program_here", "_law_row_here", "_law_words", "_law_part"]
theorem sc__law_book_text : FnScope N__law_book_text ["_law_book_here"] (defScope s__law_book_text) := ⟨rfl, rfl, rfl, by decide +kernel, rfl, by decide +kernel, by decide +kernel⟩
abbrev N__law_words_changed : List Str := ["_law_hand_here", "_law_words", "_law_some", "_law_at", "_law_way", "_law_new"]
theorem sc__law_words_changed : FnScope N__law_words_changed ["_law_hand_here", "_law_words", "_law_some"] (defScope s__law_words_changed) := ⟨rfl, rfl, rfl, by decide +kernel, rfl, by decide +kernel, by decide +kernel⟩
abbrev N__law_sign_changed : List Str := ["_law_hand_here", "_law_text", "_law_at", "_law_way", "_law_sign"]
theorem sc__law_sign_changed : FnScope N__law_sign_changed ["_law_hand_here", "_law_text"] (defScope s__law_sign_changed) := ⟨rfl, rfl, rfl, by decide +kernel, rfl, by decide +kernel, by decide +kernel⟩
abbrev N__law_spoilt : List Str := ["_law_hand_here", "_law_text", "_law_heads", "_law_rows", "_law_way", "_law_at", "_law_words", "_law_some"]
theorem sc__law_spoilt : FnScope N__law_spoilt ["_law_hand_here", "_law_text", "_law_heads"] (defScope s__law_spoilt) := ⟨rfl, rfl, rfl, by decide +kernel, rfl, by decide +kernel, by decide +kernel⟩
abbrev N__law_count : List Str := ["_law_word", "_law_figure"]
theorem sc__law_count : FnScope N__law_count ["_law_word"] (defScope s__law_count) := ⟨rfl, rfl, rfl, by decide +kernel, rfl, by decide +kernel, by decide +kernel⟩
abbrev N__law_letters : List Str := ["_law_word", "_law_sign"]
theorem sc__law_letters : FnScope N__law_letters ["_law_word"] (defScope s__law_letters) := ⟨rfl, rfl, rfl, by decide +kernel, rfl, by decide +kernel, by decide +kernel⟩
abbrev N__law_class : List Str := ["_law_caught", "_law_marks"]
theorem sc__law_class : FnScope N__law_class ["_law_caught"] (defScope s__law_class) := ⟨rfl, rfl, rfl, by decide +kernel, rfl, by decide +kernel, by decide +kernel⟩
abbrev N__law_told : List Str := ["_law_plan_here", "_law_text", "_law_caught", "_law_found", "e"]
theorem sc__law_told : FnScope N__law_told ["_law_plan_here", "_law_text"] (defScope s__law_told) := ⟨rfl, rfl, rfl, by decide +kernel, rfl, by decide +kernel, by decide +kernel⟩
abbrev N__law_form : List Str := ["_law_line", "_law_word", "_law_words", "_law_part", "_law_number"]
theorem sc__law_form : FnScope N__law_form ["_law_line"] (defScope s__law_form) := ⟨rfl, rfl, rfl, by decide +kernel, rfl, by decide +kernel, by decide +kernel⟩
abbrev N__law_due : List Str := ["_law_plan_here", "_law_text", "_law_found", "_law_at", "_law_line", "_law_book_here", "_law_row_here", "_law_name", "_law_rows"]
theorem sc__law_due : FnScope N__law_due ["_law_plan_here", "_law_text"] (defScope s__law_due) := ⟨rfl, rfl, rfl, by decide +kernel, rfl, by decide +kernel, by decide +kernel⟩
abbrev N__law_figures_right : List Str := ["_law_hand_here", "_law_many", "_law_plan_here", "_law_word", "_law_great", "_law_head", "_law_tail"]
theorem sc__law_figures_right : FnScope N__law_figures_right ["_law_hand_here"] (defScope s__law_figures_right) := ⟨rfl, rfl, rfl, by decide +kernel, rfl, by decide +kernel, by decide +kernel⟩
abbrev N_law : List Str := ["_law_script", "_law_hand_here", "_law_heads", "_law_turn", "_law_some", "_law_plan_here", "_law_text", "_law_change", "_law_thing", "_law_k"]
theorem sc_law : FnScope N_law ["_law_script"] (defScope s_law) := ⟨rfl, rfl, rfl, by decide +kernel, rfl, by decide +kernel, by decide +kernel⟩
abbrev N_NoText___init__ : List Str := ["self", "row"]
theorem sc_NoText___init__ : FnScope N_NoText___init__ ["self", "row"] (defScope s_NoText___init__) := ⟨rfl, rfl, rfl, by decide +kernel, rfl, by decide +kernel, by decide +kernel⟩
/-! ### the facts of the top -/
def formsD (fs : List (List Str)) : PyData := .tuple (fs.map fun f => .tuple (f.map PyData.str))
def bookFs : List (List Str) := [["program", "NAME"], ["take"], ["take", "N"], ["try"], ["let"], ["say", "N"], ["goto", "N"], ["if", "M", "N"]]
set_option genInjectivity false in
set_option genSizeOfSpec false in
structure Tp (w : World) (K : PySem.W.Frag) (mg : Str → Option Value) where
  f_is_letters : Addr
  d_is_letters : FuncData
  F_is_letters : Fun K "is_letters" "is_letters" s_is_letters f_is_letters d_is_letters
  m_is_letters : mg "is_letters" = some (.ref f_is_letters)
  f_is_number : Addr
  d_is_number : FuncData
  F_is_number : Fun K "is_number" "is_number" s_is_number f_is_number d_is_number
  m_is_number : mg "is_number" = some (.ref f_is_number)
  f_is_signed : Addr
  d_is_signed : FuncData
  F_is_signed : Fun K "is_signed" "is_signed" s_is_signed f_is_signed d_is_signed
  m_is_signed : mg "is_signed" = some (.ref f_is_signed)
  f_read_words : Addr
  d_read_words : FuncData
  F_read_words : Fun K "read_words" "read_words" s_read_words f_read_words d_read_words
  m_read_words : mg "read_words" = some (.ref f_read_words)
  f_has_form : Addr
  d_has_form : FuncData
  F_has_form : Fun K "has_form" "has_form" s_has_form f_has_form d_has_form
  m_has_form : mg "has_form" = some (.ref f_has_form)
  f_word_fits_forms : Addr
  d_word_fits_forms : FuncData
  F_word_fits_forms : Fun K "word_fits" "word_fits" s_word_fits_forms f_word_fits_forms d_word_fits_forms
  m_word_fits_forms : mg "word_fits_forms" = some (.ref f_word_fits_forms)
  f_read_word : Addr
  d_read_word : FuncData
  F_read_word : Fun K "read_word" "read_word" s_read_word f_read_word d_read_word
  m_read_word : mg "read_word" = some (.ref f_read_word)
  f_is_whole : Addr
  d_is_whole : FuncData
  F_is_whole : Fun K "is_whole" "is_whole" s_is_whole f_is_whole d_is_whole
  m_is_whole : mg "is_whole" = some (.ref f_is_whole)
  f_is_whole_from : Addr
  d_is_whole_from : FuncData
  F_is_whole_from : Fun K "is_whole_from" "is_whole_from" s_is_whole_from f_is_whole_from d_is_whole_from
  m_is_whole_from : mg "is_whole_from" = some (.ref f_is_whole_from)
  f_is_tuple_of : Addr
  d_is_tuple_of : FuncData
  F_is_tuple_of : Fun K "is_tuple_of" "is_tuple_of" s_is_tuple_of f_is_tuple_of d_is_tuple_of
  m_is_tuple_of : mg "is_tuple_of" = some (.ref f_is_tuple_of)
  f_is_name : Addr
  d_is_name : FuncData
  F_is_name : Fun K "is_name" "is_name" s_is_name f_is_name d_is_name
  m_is_name : mg "is_name" = some (.ref f_is_name)
  f_is_plan : Addr
  d_is_plan : FuncData
  F_is_plan : Fun K "is_plan" "is_plan" s_is_plan f_is_plan d_is_plan
  m_is_plan : mg "is_plan" = some (.ref f_is_plan)
  f_member_fits : Addr
  d_member_fits : FuncData
  F_member_fits : Fun K "member_fits" "member_fits" s_member_fits f_member_fits d_member_fits
  m_member_fits : mg "member_fits" = some (.ref f_member_fits)
  f_has_group_form : Addr
  d_has_group_form : FuncData
  F_has_group_form : Fun K "has_group_form" "has_group_form" s_has_group_form f_has_group_form d_has_group_form
  m_has_group_form : mg "has_group_form" = some (.ref f_has_group_form)
  f_hands_of : Addr
  d_hands_of : FuncData
  F_hands_of : Fun K "hands_of" "hands_of" s_hands_of f_hands_of d_hands_of
  m_hands_of : mg "hands_of" = some (.ref f_hands_of)
  f_all_in : Addr
  d_all_in : FuncData
  F_all_in : Fun K "all_in" "all_in" s_all_in f_all_in d_all_in
  m_all_in : mg "all_in" = some (.ref f_all_in)
  f_all_from : Addr
  d_all_from : FuncData
  F_all_from : Fun K "all_from" "all_from" s_all_from f_all_from d_all_from
  m_all_from : mg "all_from" = some (.ref f_all_from)
  f_is_row_number : Addr
  d_is_row_number : FuncData
  F_is_row_number : Fun K "is_row_number" "is_row_number" s_is_row_number f_is_row_number d_is_row_number
  m_is_row_number : mg "is_row_number" = some (.ref f_is_row_number)
  f_word_fits_programs : Addr
  d_word_fits_programs : FuncData
  F_word_fits_programs : Fun K "word_fits" "word_fits" s_word_fits_programs f_word_fits_programs d_word_fits_programs
  m_word_fits_programs : mg "word_fits_programs" = some (.ref f_word_fits_programs)
  f_take_fits : Addr
  d_take_fits : FuncData
  F_take_fits : Fun K "take_fits" "take_fits" s_take_fits f_take_fits d_take_fits
  m_take_fits : mg "take_fits" = some (.ref f_take_fits)
  f_say_fits : Addr
  d_say_fits : FuncData
  F_say_fits : Fun K "say_fits" "say_fits" s_say_fits f_say_fits d_say_fits
  m_say_fits : mg "say_fits" = some (.ref f_say_fits)
  f_goto_fits : Addr
  d_goto_fits : FuncData
  F_goto_fits : Fun K "goto_fits" "goto_fits" s_goto_fits f_goto_fits d_goto_fits
  m_goto_fits : mg "goto_fits" = some (.ref f_goto_fits)
  f_if_fits : Addr
  d_if_fits : FuncData
  F_if_fits : Fun K "if_fits" "if_fits" s_if_fits f_if_fits d_if_fits
  m_if_fits : mg "if_fits" = some (.ref f_if_fits)
  f_is_program : Addr
  d_is_program : FuncData
  F_is_program : Fun K "is_program" "is_program" s_is_program f_is_program d_is_program
  m_is_program : mg "is_program" = some (.ref f_is_program)
  f_row_fits : Addr
  d_row_fits : FuncData
  F_row_fits : Fun K "row_fits" "row_fits" s_row_fits f_row_fits d_row_fits
  m_row_fits : mg "row_fits" = some (.ref f_row_fits)
  f_is_book : Addr
  d_is_book : FuncData
  F_is_book : Fun K "is_book" "is_book" s_is_book f_is_book d_is_book
  m_is_book : mg "is_book" = some (.ref f_is_book)
  f_pair_fits : Addr
  d_pair_fits : FuncData
  F_pair_fits : Fun K "pair_fits" "pair_fits" s_pair_fits f_pair_fits d_pair_fits
  m_pair_fits : mg "pair_fits" = some (.ref f_pair_fits)
  f_rows_of : Addr
  d_rows_of : FuncData
  F_rows_of : Fun K "rows_of" "rows_of" s_rows_of f_rows_of d_rows_of
  m_rows_of : mg "rows_of" = some (.ref f_rows_of)
  f_read_book : Addr
  d_read_book : FuncData
  F_read_book : Fun K "read_book" "read_book" s_read_book f_read_book d_read_book
  m_read_book : mg "read_book" = some (.ref f_read_book)
  f_program_row : Addr
  d_program_row : FuncData
  F_program_row : Fun K "program_row" "program_row" s_program_row f_program_row d_program_row
  m_program_row : mg "program_row" = some (.ref f_program_row)
  f__law_hand : Addr
  d__law_hand : FuncData
  F__law_hand : Fun K "_law_hand" "_law_hand" s__law_hand f__law_hand d__law_hand
  m__law_hand : mg "_law_hand" = some (.ref f__law_hand)
  f__law_pick : Addr
  d__law_pick : FuncData
  F__law_pick : Fun K "_law_pick" "_law_pick" s__law_pick f__law_pick d__law_pick
  m__law_pick : mg "_law_pick" = some (.ref f__law_pick)
  f__law_of : Addr
  d__law_of : FuncData
  F__law_of : Fun K "_law_of" "_law_of" s__law_of f__law_of d__law_of
  m__law_of : mg "_law_of" = some (.ref f__law_of)
  f__law_names : Addr
  d__law_names : FuncData
  F__law_names : Fun K "_law_names" "_law_names" s__law_names f__law_names d__law_names
  m__law_names : mg "_law_names" = some (.ref f__law_names)
  f__law_group : Addr
  d__law_group : FuncData
  F__law_group : Fun K "_law_group" "_law_group" s__law_group f__law_group d__law_group
  m__law_group : mg "_law_group" = some (.ref f__law_group)
  f__law_sizes : Addr
  d__law_sizes : FuncData
  F__law_sizes : Fun K "_law_sizes" "_law_sizes" s__law_sizes f__law_sizes d__law_sizes
  m__law_sizes : mg "_law_sizes" = some (.ref f__law_sizes)
  f__law_plan : Addr
  d__law_plan : FuncData
  F__law_plan : Fun K "_law_plan" "_law_plan" s__law_plan f__law_plan d__law_plan
  m__law_plan : mg "_law_plan" = some (.ref f__law_plan)
  f__law_row : Addr
  d__law_row : FuncData
  F__law_row : Fun K "_law_row" "_law_row" s__law_row f__law_row d__law_row
  m__law_row : mg "_law_row" = some (.ref f__law_row)
  f__law_program : Addr
  d__law_program : FuncData
  F__law_program : Fun K "_law_program" "_law_program" s__law_program f__law_program d__law_program
  m__law_program : mg "_law_program" = some (.ref f__law_program)
  f__law_book : Addr
  d__law_book : FuncData
  F__law_book : Fun K "_law_book" "_law_book" s__law_book f__law_book d__law_book
  m__law_book : mg "_law_book" = some (.ref f__law_book)
  f__law_hands : Addr
  d__law_hands : FuncData
  F__law_hands : Fun K "_law_hands" "_law_hands" s__law_hands f__law_hands d__law_hands
  m__law_hands : mg "_law_hands" = some (.ref f__law_hands)
  f__law_book_text : Addr
  d__law_book_text : FuncData
  F__law_book_text : Fun K "_law_book_text" "_law_book_text" s__law_book_text f__law_book_text d__law_book_text
  m__law_book_text : mg "_law_book_text" = some (.ref f__law_book_text)
  f__law_words_changed : Addr
  d__law_words_changed : FuncData
  F__law_words_changed : Fun K "_law_words_changed" "_law_words_changed" s__law_words_changed f__law_words_changed d__law_words_changed
  m__law_words_changed : mg "_law_words_changed" = some (.ref f__law_words_changed)
  f__law_sign_changed : Addr
  d__law_sign_changed : FuncData
  F__law_sign_changed : Fun K "_law_sign_changed" "_law_sign_changed" s__law_sign_changed f__law_sign_changed d__law_sign_changed
  m__law_sign_changed : mg "_law_sign_changed" = some (.ref f__law_sign_changed)
  f__law_spoilt : Addr
  d__law_spoilt : FuncData
  F__law_spoilt : Fun K "_law_spoilt" "_law_spoilt" s__law_spoilt f__law_spoilt d__law_spoilt
  m__law_spoilt : mg "_law_spoilt" = some (.ref f__law_spoilt)
  f__law_count : Addr
  d__law_count : FuncData
  F__law_count : Fun K "_law_count" "_law_count" s__law_count f__law_count d__law_count
  m__law_count : mg "_law_count" = some (.ref f__law_count)
  f__law_letters : Addr
  d__law_letters : FuncData
  F__law_letters : Fun K "_law_letters" "_law_letters" s__law_letters f__law_letters d__law_letters
  m__law_letters : mg "_law_letters" = some (.ref f__law_letters)
  f__law_class : Addr
  d__law_class : FuncData
  F__law_class : Fun K "_law_class" "_law_class" s__law_class f__law_class d__law_class
  m__law_class : mg "_law_class" = some (.ref f__law_class)
  f__law_told : Addr
  d__law_told : FuncData
  F__law_told : Fun K "_law_told" "_law_told" s__law_told f__law_told d__law_told
  m__law_told : mg "_law_told" = some (.ref f__law_told)
  f__law_form : Addr
  d__law_form : FuncData
  F__law_form : Fun K "_law_form" "_law_form" s__law_form f__law_form d__law_form
  m__law_form : mg "_law_form" = some (.ref f__law_form)
  f__law_due : Addr
  d__law_due : FuncData
  F__law_due : Fun K "_law_due" "_law_due" s__law_due f__law_due d__law_due
  m__law_due : mg "_law_due" = some (.ref f__law_due)
  f__law_figures_right : Addr
  d__law_figures_right : FuncData
  F__law_figures_right : Fun K "_law_figures_right" "_law_figures_right" s__law_figures_right f__law_figures_right d__law_figures_right
  m__law_figures_right : mg "_law_figures_right" = some (.ref f__law_figures_right)
  f_law : Addr
  d_law : FuncData
  F_law : Fun K "law" "law" s_law f_law d_law
  m_law : mg "law" = some (.ref f_law)
  f_NoText___init__ : Addr
  d_NoText___init__ : FuncData
  F_NoText___init__ : Fun K "__init__" "NoText.__init__" s_NoText___init__ f_NoText___init__ d_NoText___init__
  C_LockError : Addr
  xc_LockError : XcC K C_LockError
  mc_LockError : mg "LockError" = some (.ref C_LockError)
  xp_LockError : PySem.W.excIn K C_LockError [.type "ValueError", .type "Exception", .type "BaseException", .type "object"] "ValueError.__new__" = true
  C_NoName : Addr
  xc_NoName : XcC K C_NoName
  mc_NoName : mg "NoName" = some (.ref C_NoName)
  C_NoText : Addr
  xc_NoText : XcC K C_NoText
  mc_NoText : mg "NoText" = some (.ref C_NoText)
  ox_NoText : OexC K C_NoText
  ii_NoText : PySem.W.findIn K (.ref C_NoText) "__init__" = some (some (.ref f_NoText___init__))
  ti_NoText : PySem.W.typeIn K (.ref f_NoText___init__) = some (.type "function")
  na_NoText_row : PySem.W.findIn K (.ref C_NoText) "row" = some none
  C_NoPlan : Addr
  xc_NoPlan : XcC K C_NoPlan
  mc_NoPlan : mg "NoPlan" = some (.ref C_NoPlan)
  xp_NoPlan : PySem.W.excIn K C_NoPlan [.type "ValueError", .type "Exception", .type "BaseException", .type "object"] "ValueError.__new__" = true
  C_NoBook : Addr
  xc_NoBook : XcC K C_NoBook
  mc_NoBook : mg "NoBook" = some (.ref C_NoBook)
  xp_NoBook : PySem.W.excIn K C_NoBook [.type "ValueError", .type "Exception", .type "BaseException", .type "object"] "ValueError.__new__" = true
  C_NoScript : Addr
  xc_NoScript : XcC K C_NoScript
  mc_NoScript : mg "NoScript" = some (.ref C_NoScript)
  xp_NoScript : PySem.W.excIn K C_NoScript [.type "ValueError", .type "Exception", .type "BaseException", .type "object"] "ValueError.__new__" = true
  C_NoBounds : Addr
  xc_NoBounds : XcC K C_NoBounds
  mc_NoBounds : mg "NoBounds" = some (.ref C_NoBounds)
  xp_NoBounds : PySem.W.excIn K C_NoBounds [.type "ValueError", .type "Exception", .type "BaseException", .type "object"] "ValueError.__new__" = true
  C_NotWaiting : Addr
  xc_NotWaiting : XcC K C_NotWaiting
  mc_NotWaiting : mg "NotWaiting" = some (.ref C_NotWaiting)
  xp_NotWaiting : PySem.W.excIn K C_NotWaiting [.type "ValueError", .type "Exception", .type "BaseException", .type "object"] "ValueError.__new__" = true
  C_Uneven : Addr
  xc_Uneven : XcC K C_Uneven
  mc_Uneven : mg "Uneven" = some (.ref C_Uneven)
  xp_Uneven : PySem.W.excIn K C_Uneven [.type "ValueError", .type "Exception", .type "BaseException", .type "object"] "ValueError.__new__" = true
  C_NoStep : Addr
  xc_NoStep : XcC K C_NoStep
  mc_NoStep : mg "NoStep" = some (.ref C_NoStep)
  xp_NoStep : PySem.W.excIn K C_NoStep [.type "ValueError", .type "Exception", .type "BaseException", .type "object"] "ValueError.__new__" = true
  C_TooMany : Addr
  xc_TooMany : XcC K C_TooMany
  mc_TooMany : mg "TooMany" = some (.ref C_TooMany)
  xp_TooMany : PySem.W.excIn K C_TooMany [.type "ValueError", .type "Exception", .type "BaseException", .type "object"] "ValueError.__new__" = true
  C_Endless : Addr
  xc_Endless : XcC K C_Endless
  mc_Endless : mg "Endless" = some (.ref C_Endless)
  xp_Endless : PySem.W.excIn K C_Endless [.type "ValueError", .type "Exception", .type "BaseException", .type "object"] "ValueError.__new__" = true
  C_NoLine : Addr
  xc_NoLine : XcC K C_NoLine
  mc_NoLine : mg "NoLine" = some (.ref C_NoLine)
  xp_NoLine : PySem.W.excIn K C_NoLine [.type "ValueError", .type "Exception", .type "BaseException", .type "object"] "ValueError.__new__" = true
  C_NoHouse : Addr
  xc_NoHouse : XcC K C_NoHouse
  mc_NoHouse : mg "NoHouse" = some (.ref C_NoHouse)
  xp_NoHouse : PySem.W.excIn K C_NoHouse [.type "ValueError", .type "Exception", .type "BaseException", .type "object"] "ValueError.__new__" = true
  sb_NoText_LockError : PySem.W.subIn K (.ref C_NoText) (.ref C_LockError) = some true
  sb_NoText_NoName : PySem.W.subIn K (.ref C_NoText) (.ref C_NoName) = some false
  sb_NoText_Endless : PySem.W.subIn K (.ref C_NoText) (.ref C_Endless) = some false
  sb_NoText_NoBook : PySem.W.subIn K (.ref C_NoText) (.ref C_NoBook) = some false
  sb_NoText_NoBounds : PySem.W.subIn K (.ref C_NoText) (.ref C_NoBounds) = some false
  sb_NoText_NoHouse : PySem.W.subIn K (.ref C_NoText) (.ref C_NoHouse) = some false
  sb_NoText_NoLine : PySem.W.subIn K (.ref C_NoText) (.ref C_NoLine) = some false
  sb_NoText_NoPlan : PySem.W.subIn K (.ref C_NoText) (.ref C_NoPlan) = some false
  sb_NoText_NoScript : PySem.W.subIn K (.ref C_NoText) (.ref C_NoScript) = some false
  sb_NoText_NoStep : PySem.W.subIn K (.ref C_NoText) (.ref C_NoStep) = some false
  sb_NoText_NotWaiting : PySem.W.subIn K (.ref C_NoText) (.ref C_NotWaiting) = some false
  sb_NoText_NoText : PySem.W.subIn K (.ref C_NoText) (.ref C_NoText) = some true
  sb_NoText_TooMany : PySem.W.subIn K (.ref C_NoText) (.ref C_TooMany) = some false
  sb_NoText_Uneven : PySem.W.subIn K (.ref C_NoText) (.ref C_Uneven) = some false
  sb_NoText_ValueError : PySem.W.subIn K (.ref C_NoText) (.type "ValueError") = some true
  sb_NoBook_LockError : PySem.W.subIn K (.ref C_NoBook) (.ref C_LockError) = some true
  sb_NoBook_NoName : PySem.W.subIn K (.ref C_NoBook) (.ref C_NoName) = some false
  sb_NoBook_Endless : PySem.W.subIn K (.ref C_NoBook) (.ref C_Endless) = some false
  sb_NoBook_NoBook : PySem.W.subIn K (.ref C_NoBook) (.ref C_NoBook) = some true
  sb_NoBook_NoBounds : PySem.W.subIn K (.ref C_NoBook) (.ref C_NoBounds) = some false
  sb_NoBook_NoHouse : PySem.W.subIn K (.ref C_NoBook) (.ref C_NoHouse) = some false
  sb_NoBook_NoLine : PySem.W.subIn K (.ref C_NoBook) (.ref C_NoLine) = some false
  sb_NoBook_NoPlan : PySem.W.subIn K (.ref C_NoBook) (.ref C_NoPlan) = some false
  sb_NoBook_NoScript : PySem.W.subIn K (.ref C_NoBook) (.ref C_NoScript) = some false
  sb_NoBook_NoStep : PySem.W.subIn K (.ref C_NoBook) (.ref C_NoStep) = some false
  sb_NoBook_NotWaiting : PySem.W.subIn K (.ref C_NoBook) (.ref C_NotWaiting) = some false
  sb_NoBook_NoText : PySem.W.subIn K (.ref C_NoBook) (.ref C_NoText) = some false
  sb_NoBook_TooMany : PySem.W.subIn K (.ref C_NoBook) (.ref C_TooMany) = some false
  sb_NoBook_Uneven : PySem.W.subIn K (.ref C_NoBook) (.ref C_Uneven) = some false
  sb_NoBook_ValueError : PySem.W.subIn K (.ref C_NoBook) (.type "ValueError") = some true
  z_ValueError : mg "ValueError" = none
  z_all : mg "all" = none
  z_bool : mg "bool" = none
  z_enumerate : mg "enumerate" = none
  z_int : mg "int" = none
  z_isinstance : mg "isinstance" = none
  z_len : mg "len" = none
  z_range : mg "range" = none
  z_repr : mg "repr" = none
  z_sorted : mg "sorted" = none
  z_str : mg "str" = none
  z_tuple : mg "tuple" = none
  z_zip : mg "zip" = none
  t_MOST_SAID : Tok
  c_MOST_SAID : mg "MOST_SAID" = some (.int 99 t_MOST_SAID)
  a_FORMS : Addr
  c_FORMS : mg "FORMS" = some (.ref a_FORMS)
  D_FORMS : KTab K w a_FORMS (fun z => if z = "take" then some (.ref f_take_fits) else if z = "try" then some (.ref f_word_fits_programs) else if z = "let" then some (.ref f_word_fits_programs) else if z = "say" then some (.ref f_say_fits) else if z = "goto" then some (.ref f_goto_fits) else if z = "if" then some (.ref f_if_fits) else none)
  nd : [f_take_fits, f_word_fits_programs, f_say_fits, f_goto_fits, f_if_fits].Nodup
  t_LETTERS : Tok
  c_LETTERS : mg "LETTERS" = some (.str "abcdefghijklmnopqrstuvwxyz" t_LETTERS)
  t_LONGEST : Tok
  c_LONGEST : mg "LONGEST_NAME" = some (.int 8 t_LONGEST)
  t_LEAST : Tok
  c_LEAST : mg "LEAST_BOUND" = some (.int 1 t_LEAST)
  t_FIGURES : Tok
  c_FIGURES : mg "FIGURES" = some (.str "0123456789" t_FIGURES)
  t_MOSTF : Tok
  c_MOSTF : mg "MOST_FIGURES" = some (.int 9 t_MOSTF)
  a_KINDS : Addr
  c_KINDS : mg "KINDS" = some (.ref a_KINDS)
  D_KINDS : KTab K w a_KINDS (fun z => if z = "NAME" then some (.ref f_is_letters) else if z = "N" then some (.ref f_is_number) else if z = "M" then some (.ref f_is_signed) else none)
  ndK : [f_is_letters, f_is_number, f_is_signed].Nodup
  a_BOOK : Addr
  c_BOOK : mg "BOOK_ROWS" = some (.ref a_BOOK)
  D_BOOK : ∀ H : Hp, Dy K H (.ref a_BOOK) (formsD bookFs)
theorem b_is_letters {w : World} {K : PySem.W.Frag} {mg : Str → Option Value} (T : Tp w K mg) : Binds K T.d_is_letters ["word"] [] := T.F_is_letters.binds fun _ _ _ _ _ _ us hl => match us, hl with | [_], _ => rfl
theorem b_is_number {w : World} {K : PySem.W.Frag} {mg : Str → Option Value} (T : Tp w K mg) : Binds K T.d_is_number ["word"] [] := T.F_is_number.binds fun _ _ _ _ _ _ us hl => match us, hl with | [_], _ => rfl
theorem b_is_signed {w : World} {K : PySem.W.Frag} {mg : Str → Option Value} (T : Tp w K mg) : Binds K T.d_is_signed ["word"] [] := T.F_is_signed.binds fun _ _ _ _ _ _ us hl => match us, hl with | [_], _ => rfl
theorem b_read_words {w : World} {K : PySem.W.Frag} {mg : Str → Option Value} (T : Tp w K mg) : Binds K T.d_read_words ["row", "forms"] [] := T.F_read_words.binds fun _ _ _ _ _ _ us hl => match us, hl with | [_, _], _ => rfl
theorem b_has_form {w : World} {K : PySem.W.Frag} {mg : Str → Option Value} (T : Tp w K mg) : Binds K T.d_has_form ["words", "form"] [] := T.F_has_form.binds fun _ _ _ _ _ _ us hl => match us, hl with | [_, _], _ => rfl
theorem b_word_fits_forms {w : World} {K : PySem.W.Frag} {mg : Str → Option Value} (T : Tp w K mg) : Binds K T.d_word_fits_forms ["word", "kind"] [] := T.F_word_fits_forms.binds fun _ _ _ _ _ _ us hl => match us, hl with | [_, _], _ => rfl
theorem b_read_word {w : World} {K : PySem.W.Frag} {mg : Str → Option Value} (T : Tp w K mg) : Binds K T.d_read_word ["word", "kind"] [] := T.F_read_word.binds fun _ _ _ _ _ _ us hl => match us, hl with | [_, _], _ => rfl
theorem b_is_whole {w : World} {K : PySem.W.Frag} {mg : Str → Option Value} (T : Tp w K mg) : Binds K T.d_is_whole ["thing"] [] := T.F_is_whole.binds fun _ _ _ _ _ _ us hl => match us, hl with | [_], _ => rfl
theorem b_is_whole_from {w : World} {K : PySem.W.Frag} {mg : Str → Option Value} (T : Tp w K mg) : Binds K T.d_is_whole_from ["thing", "least"] [] := T.F_is_whole_from.binds fun _ _ _ _ _ _ us hl => match us, hl with | [_, _], _ => rfl
theorem b_is_tuple_of {w : World} {K : PySem.W.Frag} {mg : Str → Option Value} (T : Tp w K mg) : Binds K T.d_is_tuple_of ["thing", "many"] [] := T.F_is_tuple_of.binds fun _ _ _ _ _ _ us hl => match us, hl with | [_, _], _ => rfl
theorem b_is_name {w : World} {K : PySem.W.Frag} {mg : Str → Option Value} (T : Tp w K mg) : Binds K T.d_is_name ["thing"] [] := T.F_is_name.binds fun _ _ _ _ _ _ us hl => match us, hl with | [_], _ => rfl
theorem b_is_plan {w : World} {K : PySem.W.Frag} {mg : Str → Option Value} (T : Tp w K mg) : Binds K T.d_is_plan ["thing"] [] := T.F_is_plan.binds fun _ _ _ _ _ _ us hl => match us, hl with | [_], _ => rfl
theorem b_member_fits {w : World} {K : PySem.W.Frag} {mg : Str → Option Value} (T : Tp w K mg) : Binds K T.d_member_fits ["thing", "seen"] [] := T.F_member_fits.binds fun _ _ _ _ _ _ us hl => match us, hl with | [_, _], _ => rfl
theorem b_has_group_form {w : World} {K : PySem.W.Frag} {mg : Str → Option Value} (T : Tp w K mg) : Binds K T.d_has_group_form ["thing"] [] := T.F_has_group_form.binds fun _ _ _ _ _ _ us hl => match us, hl with | [_], _ => rfl
theorem b_hands_of {w : World} {K : PySem.W.Frag} {mg : Str → Option Value} (T : Tp w K mg) : Binds K T.d_hands_of ["plan"] [] := T.F_hands_of.binds fun _ _ _ _ _ _ us hl => match us, hl with | [_], _ => rfl
theorem b_all_in {w : World} {K : PySem.W.Frag} {mg : Str → Option Value} (T : Tp w K mg) : Binds K T.d_all_in ["plan"] [] := T.F_all_in.binds fun _ _ _ _ _ _ us hl => match us, hl with | [_], _ => rfl
theorem b_all_from {w : World} {K : PySem.W.Frag} {mg : Str → Option Value} (T : Tp w K mg) : Binds K T.d_all_from ["group", "around"] [] := T.F_all_from.binds fun _ _ _ _ _ _ us hl => match us, hl with | [_, _], _ => rfl
theorem b_is_row_number {w : World} {K : PySem.W.Frag} {mg : Str → Option Value} (T : Tp w K mg) : Binds K T.d_is_row_number ["thing", "many"] [] := T.F_is_row_number.binds fun _ _ _ _ _ _ us hl => match us, hl with | [_, _], _ => rfl
theorem b_word_fits_programs {w : World} {K : PySem.W.Frag} {mg : Str → Option Value} (T : Tp w K mg) : Binds K T.d_word_fits_programs ["row", "many"] [] := T.F_word_fits_programs.binds fun _ _ _ _ _ _ us hl => match us, hl with | [_, _], _ => rfl
theorem b_take_fits {w : World} {K : PySem.W.Frag} {mg : Str → Option Value} (T : Tp w K mg) : Binds K T.d_take_fits ["row", "many"] [] := T.F_take_fits.binds fun _ _ _ _ _ _ us hl => match us, hl with | [_, _], _ => rfl
theorem b_say_fits {w : World} {K : PySem.W.Frag} {mg : Str → Option Value} (T : Tp w K mg) : Binds K T.d_say_fits ["row", "many"] [] := T.F_say_fits.binds fun _ _ _ _ _ _ us hl => match us, hl with | [_, _], _ => rfl
theorem b_goto_fits {w : World} {K : PySem.W.Frag} {mg : Str → Option Value} (T : Tp w K mg) : Binds K T.d_goto_fits ["row", "many"] [] := T.F_goto_fits.binds fun _ _ _ _ _ _ us hl => match us, hl with | [_, _], _ => rfl
theorem b_if_fits {w : World} {K : PySem.W.Frag} {mg : Str → Option Value} (T : Tp w K mg) : Binds K T.d_if_fits ["row", "many"] [] := T.F_if_fits.binds fun _ _ _ _ _ _ us hl => match us, hl with | [_, _], _ => rfl
theorem b_is_program {w : World} {K : PySem.W.Frag} {mg : Str → Option Value} (T : Tp w K mg) : Binds K T.d_is_program ["thing"] [] := T.F_is_program.binds fun _ _ _ _ _ _ us hl => match us, hl with | [_], _ => rfl
theorem b_row_fits {w : World} {K : PySem.W.Frag} {mg : Str → Option Value} (T : Tp w K mg) : Binds K T.d_row_fits ["row", "many"] [] := T.F_row_fits.binds fun _ _ _ _ _ _ us hl => match us, hl with | [_, _], _ => rfl
theorem b_is_book {w : World} {K : PySem.W.Frag} {mg : Str → Option Value} (T : Tp w K mg) : Binds K T.d_is_book ["plan", "thing"] [] := T.F_is_book.binds fun _ _ _ _ _ _ us hl => match us, hl with | [_, _], _ => rfl
theorem b_pair_fits {w : World} {K : PySem.W.Frag} {mg : Str → Option Value} (T : Tp w K mg) : Binds K T.d_pair_fits ["pair"] [] := T.F_pair_fits.binds fun _ _ _ _ _ _ us hl => match us, hl with | [_], _ => rfl
theorem b_rows_of {w : World} {K : PySem.W.Frag} {mg : Str → Option Value} (T : Tp w K mg) : Binds K T.d_rows_of ["text"] [] := T.F_rows_of.binds fun _ _ _ _ _ _ us hl => match us, hl with | [_], _ => rfl
theorem b_read_book {w : World} {K : PySem.W.Frag} {mg : Str → Option Value} (T : Tp w K mg) : Binds K T.d_read_book ["plan", "text"] [] := T.F_read_book.binds fun _ _ _ _ _ _ us hl => match us, hl with | [_, _], _ => rfl
theorem b_program_row {w : World} {K : PySem.W.Frag} {mg : Str → Option Value} (T : Tp w K mg) : Binds K T.d_program_row ["words"] [] := T.F_program_row.binds fun _ _ _ _ _ _ us hl => match us, hl with | [_], _ => rfl
theorem b__law_hand {w : World} {K : PySem.W.Frag} {mg : Str → Option Value} (T : Tp w K mg) : Binds K T.d__law_hand ["_law_script"] [] := T.F__law_hand.binds fun _ _ _ _ _ _ us hl => match us, hl with | [_], _ => rfl
theorem b__law_pick {w : World} {K : PySem.W.Frag} {mg : Str → Option Value} (T : Tp w K mg) : Binds K T.d__law_pick ["_law_hand_here", "_law_many"] [] := T.F__law_pick.binds fun _ _ _ _ _ _ us hl => match us, hl with | [_, _], _ => rfl
theorem b__law_of {w : World} {K : PySem.W.Frag} {mg : Str → Option Value} (T : Tp w K mg) : Binds K T.d__law_of ["_law_hand_here", "_law_some"] [] := T.F__law_of.binds fun _ _ _ _ _ _ us hl => match us, hl with | [_, _], _ => rfl
theorem b__law_names {w : World} {K : PySem.W.Frag} {mg : Str → Option Value} (T : Tp w K mg) : Binds K T.d__law_names ["_law_hand_here"] [] := T.F__law_names.binds fun _ _ _ _ _ _ us hl => match us, hl with | [_], _ => rfl
theorem b__law_group {w : World} {K : PySem.W.Frag} {mg : Str → Option Value} (T : Tp w K mg) : Binds K T.d__law_group ["_law_hand_here", "_law_names_here", "_law_deep", "_law_wide"] [] := T.F__law_group.binds fun _ _ _ _ _ _ us hl => match us, hl with | [_, _, _, _], _ => rfl
theorem b__law_sizes {w : World} {K : PySem.W.Frag} {mg : Str → Option Value} (T : Tp w K mg) : Binds K T.d__law_sizes [] [] := T.F__law_sizes.binds fun _ _ _ _ _ _ us hl => match us, hl with | [], _ => rfl
theorem b__law_plan {w : World} {K : PySem.W.Frag} {mg : Str → Option Value} (T : Tp w K mg) : Binds K T.d__law_plan ["_law_hand_here", "_law_sizes_here"] [] := T.F__law_plan.binds fun _ _ _ _ _ _ us hl => match us, hl with | [_, _], _ => rfl
theorem b__law_row {w : World} {K : PySem.W.Frag} {mg : Str → Option Value} (T : Tp w K mg) : Binds K T.d__law_row ["_law_hand_here", "_law_size"] [] := T.F__law_row.binds fun _ _ _ _ _ _ us hl => match us, hl with | [_, _], _ => rfl
theorem b__law_program {w : World} {K : PySem.W.Frag} {mg : Str → Option Value} (T : Tp w K mg) : Binds K T.d__law_program ["_law_hand_here", "_law_upmost"] [] := T.F__law_program.binds fun _ _ _ _ _ _ us hl => match us, hl with | [_, _], _ => rfl
theorem b__law_book {w : World} {K : PySem.W.Frag} {mg : Str → Option Value} (T : Tp w K mg) : Binds K T.d__law_book ["_law_hand_here", "_law_plan_here", "_law_upmost"] [] := T.F__law_book.binds fun _ _ _ _ _ _ us hl => match us, hl with | [_, _, _], _ => rfl
theorem b__law_hands {w : World} {K : PySem.W.Frag} {mg : Str → Option Value} (T : Tp w K mg) : Binds K T.d__law_hands ["_law_plan_here"] [] := T.F__law_hands.binds fun _ _ _ _ _ _ us hl => match us, hl with | [_], _ => rfl
theorem b__law_book_text {w : World} {K : PySem.W.Frag} {mg : Str → Option Value} (T : Tp w K mg) : Binds K T.d__law_book_text ["_law_book_here"] [] := T.F__law_book_text.binds fun _ _ _ _ _ _ us hl => match us, hl with | [_], _ => rfl
theorem b__law_words_changed {w : World} {K : PySem.W.Frag} {mg : Str → Option Value} (T : Tp w K mg) : Binds K T.d__law_words_changed ["_law_hand_here", "_law_words", "_law_some"] [] := T.F__law_words_changed.binds fun _ _ _ _ _ _ us hl => match us, hl with | [_, _, _], _ => rfl
theorem b__law_sign_changed {w : World} {K : PySem.W.Frag} {mg : Str → Option Value} (T : Tp w K mg) : Binds K T.d__law_sign_changed ["_law_hand_here", "_law_text"] [] := T.F__law_sign_changed.binds fun _ _ _ _ _ _ us hl => match us, hl with | [_, _], _ => rfl
theorem b__law_spoilt {w : World} {K : PySem.W.Frag} {mg : Str → Option Value} (T : Tp w K mg) : Binds K T.d__law_spoilt ["_law_hand_here", "_law_text", "_law_heads"] [] := T.F__law_spoilt.binds fun _ _ _ _ _ _ us hl => match us, hl with | [_, _, _], _ => rfl
theorem b__law_count {w : World} {K : PySem.W.Frag} {mg : Str → Option Value} (T : Tp w K mg) : Binds K T.d__law_count ["_law_word"] [] := T.F__law_count.binds fun _ _ _ _ _ _ us hl => match us, hl with | [_], _ => rfl
theorem b__law_letters {w : World} {K : PySem.W.Frag} {mg : Str → Option Value} (T : Tp w K mg) : Binds K T.d__law_letters ["_law_word"] [] := T.F__law_letters.binds fun _ _ _ _ _ _ us hl => match us, hl with | [_], _ => rfl
theorem b__law_class {w : World} {K : PySem.W.Frag} {mg : Str → Option Value} (T : Tp w K mg) : Binds K T.d__law_class ["_law_caught"] [] := T.F__law_class.binds fun _ _ _ _ _ _ us hl => match us, hl with | [_], _ => rfl
theorem b__law_told {w : World} {K : PySem.W.Frag} {mg : Str → Option Value} (T : Tp w K mg) : Binds K T.d__law_told ["_law_plan_here", "_law_text"] [] := T.F__law_told.binds fun _ _ _ _ _ _ us hl => match us, hl with | [_, _], _ => rfl
theorem b__law_form {w : World} {K : PySem.W.Frag} {mg : Str → Option Value} (T : Tp w K mg) : Binds K T.d__law_form ["_law_line"] [] := T.F__law_form.binds fun _ _ _ _ _ _ us hl => match us, hl with | [_], _ => rfl
theorem b__law_due {w : World} {K : PySem.W.Frag} {mg : Str → Option Value} (T : Tp w K mg) : Binds K T.d__law_due ["_law_plan_here", "_law_text"] [] := T.F__law_due.binds fun _ _ _ _ _ _ us hl => match us, hl with | [_, _], _ => rfl
theorem b__law_figures_right {w : World} {K : PySem.W.Frag} {mg : Str → Option Value} (T : Tp w K mg) : Binds K T.d__law_figures_right ["_law_hand_here"] [] := T.F__law_figures_right.binds fun _ _ _ _ _ _ us hl => match us, hl with | [_], _ => rfl
theorem b_NoText___init__ {w : World} {K : PySem.W.Frag} {mg : Str → Option Value} (T : Tp w K mg) : Binds K T.d_NoText___init__ ["self", "row"] [] := T.F_NoText___init__.binds fun _ _ _ _ _ _ us hl => match us, hl with | [_, _], _ => rfl
section
variable {P : Program} {w : World} {K : PySem.W.Frag} {mg : Str → Option Value} {base : Heap}
theorem ok_NoText___init__ (T : Tp w K mg) : FnOk P w K mg base CX0 1 T.f_NoText___init__ T.d_NoText___init__ ["self", "row"] (spXInit K "row") := by
  refine T.F_NoText___init__.ok sc_NoText___init__ (fun vs H Q E h => ?_) (fun cdv A outer s H vs Q E hr h => ?_)
  · obtain ⟨a, C, v, rfl, _⟩ := h
    rfl
  obtain ⟨a, C, v, rfl, c, no, ha, q⟩ := h
  refine ⟨_, (pss_one (ps_ost (pv 0) (pv 1))), ?_⟩
  exact ⟨v, rfl, _, rfl, a, C, rfl, c, no, Or.inl ⟨ha, fun dx nd ne => q dx nd ne⟩⟩
end
/-! ### what the program's own defs tell -/
def isWhole : PyData → Bool
  | .int _ => true | _ => false
def wholeFrom (d : PyData) (k : Int) : Bool := match d with
  | .int i => decide (k ≤ i)
  | _ => false
def rowNum (d : PyData) (many : Int) : Bool := match d with
  | .int i => decide (0 ≤ i) && decide (i < many)
  | _ => false
def wordFits (ds : List PyData) : Bool := decide (ds.length = 1)
def takeFits (ds : List PyData) : Bool := match ds with
  | [_, .none] => true
  | [_, d] => wholeFrom d 0
  | _ => false
def sayFits (ds : List PyData) : Bool := match ds with
  | [_, .int i] => decide (0 ≤ i) && decide (i ≤ 99)
  | _ => false
def gotoFits (ds : List PyData) (many : Int) : Bool := match ds with
  | [_, d] => rowNum d many
  | _ => false
def ifFits (ds : List PyData) (many : Int) : Bool := match ds with
  | [_, d, e] => isWhole d && rowNum e many
  | _ => false
def rowFits (d : PyData) (many : Int) : Bool := match d with
  | .tuple (.str z :: ds) => if z = "take" then takeFits (.str z :: ds) else if z = "try" then wordFits (.str z :: ds) else if z = "let" then wordFits (.str z :: ds) else if z = "say" then sayFits (.str z :: ds) else if z = "goto" then gotoFits (.str z :: ds) many else if z = "if" then ifFits (.str z :: ds) many else false
  | _ => false
def progFits : PyData → Bool
  | .tuple ds => ds.all fun d => rowFits d ds.length
  | _ => false
theorem and_of {a b : Bool} (h : b = true → a = true) : (a && b) = b := by
  cases b with
  | false => exact Bool.and_false a
  | true => rw [h rfl] <;> rfl
theorem len_is {n m : Nat} (h : decide (V.int (n : Int) = V.int (m : Int)) = true) : n = m := by
  have e : V.int (n : Int) = V.int (m : Int) := of_decide_eq_true h
  have e2 : (n : Int) = (m : Int) := V.int.inj e
  omega
theorem is_len {n m : Nat} (h : n = m) : decide (V.int (n : Int) = V.int (m : Int)) = true := by
  subst h
  exact decide_eq_true rfl
theorem dxb2 {K : PySem.W.Frag} {H : Hp} {xs : List V} {ds : List PyData} (h : DxAll K H xs ds) (e : xs.length = 2) : ∃ x y d f, xs = [x, y] ∧ ds = [d, f] ∧ Dx K H x d ∧ Dx K H y f := by
  cases h with
  | nil => simp at e
  | cons h1 t =>
    cases t with
    | nil => simp at e
    | cons h2 t =>
      cases t with
      | nil => exact ⟨_, _, _, _, rfl, rfl, h1, h2⟩
      | cons _ _ => simp at e
theorem dxb3 {K : PySem.W.Frag} {H : Hp} {xs : List V} {ds : List PyData} (h : DxAll K H xs ds) (e : xs.length = 3) : ∃ x y z d f g, xs = [x, y, z] ∧ ds = [d, f, g] ∧ Dx K H x d ∧ Dx K H y f ∧ Dx K H z g := by
  cases h with
  | nil => simp at e
  | cons h1 t =>
    obtain ⟨y, z, f, g, rfl, rfl, hy, hz⟩ := dxb2 t (by simpa using e)
    exact ⟨_, _, _, _, _, _, rfl, rfl, h1, hy, hz⟩
theorem takeFits_len {ds : List PyData} (h : takeFits ds = true) : ds.length = 2 := by
  unfold takeFits at h
  split at h
  · rfl
  · rfl
  · cases h
theorem sayFits_len {ds : List PyData} (h : sayFits ds = true) : ds.length = 2 := by
  unfold sayFits at h
  split at h
  · rfl
  · cases h
theorem gotoFits_len {ds : List PyData} {k : Int} (h : gotoFits ds k = true) : ds.length = 2 := by
  unfold gotoFits at h
  split at h
  · rfl
  · cases h
theorem ifFits_len {ds : List PyData} {k : Int} (h : ifFits ds k = true) : ds.length = 3 := by
  unfold ifFits at h
  split at h
  · rfl
  · cases h
/-! ### promises -/
def spWhole (K : PySem.W.Frag) : Sp := fun vs H Q _ => ∃ v d, vs = [v] ∧ Dx K H v d ∧ ∀ H', Ex H H' → Q (.bl (isWhole d)) H'
def spFrom (K : PySem.W.Frag) : Sp := fun vs H Q _ => ∃ v d k, vs = [v, .int k] ∧ Dx K H v d ∧ ∀ H', Ex H H' → Q (.bl (wholeFrom d k)) H'
def spNum (K : PySem.W.Frag) : Sp := fun vs H Q _ => ∃ v d k, vs = [v, .int k] ∧ Dx K H v d ∧ ∀ H', Ex H H' → Q (.bl (rowNum d k)) H'
def spFit (K : PySem.W.Frag) (f : List PyData → Int → Bool) : Sp := fun vs H Q _ => ∃ a xs ds k, vs = [.ref a, .int k] ∧ SqT K H a xs ∧ DxAll K H xs ds ∧ xs.length ≤ 40000 ∧ ∀ H', Ex H H' → Q (.bl (f ds k)) H'
def spRowFits (K : PySem.W.Frag) : Sp := fun vs H Q _ => ∃ v d k, vs = [v, .int k] ∧ Dx K H v d ∧ (∀ ds, d = .tuple ds → ds.length ≤ 40000) ∧ ∀ H', Ex H H' → Q (.bl (rowFits d k)) H'
def rowsSmall : PyData → Prop
  | .tuple ds => ds.length ≤ 40000 ∧ ∀ d ∈ ds, ∀ es, d = .tuple es → es.length ≤ 40000
  | _ => True
def spProg (K : PySem.W.Frag) : Sp := fun vs H Q _ => ∃ v d, vs = [v] ∧ Dx K H v d ∧ rowsSmall d ∧ ∀ H', Ex H H' → Q (.bl (progFits d)) H'
section
variable {P : Program} {w : World} {K : PySem.W.Frag} {mg : Str → Option Value} {base : Heap}
theorem ok_is_whole (T : Tp w K mg) : FnOk P w K mg base CX0 1 T.f_is_whole T.d_is_whole ["thing"] (spWhole K) := by
  refine T.F_is_whole.ok sc_is_whole (fun vs H Q E h => ?_) (fun cdv A outer s H vs Q E hr h => ?_)
  · obtain ⟨v, d, rfl, _⟩ := h
    rfl
  obtain ⟨v, d, rfl, hd, q⟩ := h
  refine ⟨_, (pss_one (ps_ret (pe_and (pe_callB (isiK (K := K) rfl) rfl T.z_isinstance (by decide +kernel) (pa_cons (pv 0) (pa_cons (pe_bltn (v := .ty "int") rfl T.z_int (by decide +kernel) rfl) pa_nil (star1 rfl)) (star1 rfl)) (by decide) (by decide) (star1 rfl) (starAll rfl)) (pe_one (pe_not (pe_callB (isiK (K := K) rfl) rfl T.z_isinstance (by decide +kernel) (pa_cons (pv 0) (pa_cons (pe_bltn (v := .ty "bool") rfl T.z_bool (by decide +kernel) rfl) pa_nil (star1 rfl)) (star1 rfl)) (by decide) (by decide) (star1 rfl) (starAll rfl))))))), ?_⟩
  refine s_ret (ev_is (ev_andV (ev_isX (ev_var rfl) hd (kt_int d)) fun _ => ev_notV (ev_isX (ev_var rfl) hd (kt_bool d))) ?_) q
  cases d <;> rfl
theorem ok_is_whole_from (T : Tp w K mg) : FnOk P w K mg base CX0 2 T.f_is_whole_from T.d_is_whole_from ["thing", "least"] (spFrom K) := by
  refine T.F_is_whole_from.ok sc_is_whole_from (fun vs H Q E h => ?_) (fun cdv A outer s H vs Q E hr h => ?_)
  · obtain ⟨v, d, k, rfl, _⟩ := h
    rfl
  obtain ⟨v, d, k, rfl, hd, q⟩ := h
  refine ⟨_, (pss_one (ps_ret (pe_and (pe_call (ok_is_whole T) (hr.mono (by decide)) rfl T.m_is_whole T.F_is_whole.kp (b_is_whole T) .nil pass0 (pa_cons (pv 0) pa_nil (star1 rfl)) (by decide) (star1 rfl) (starAll rfl)) (pe_one (pe_cmpR op_ge (pv 0) (pv 1) (nomark _)))))), ?_⟩
  refine s_ret (ev_is (ev_andV (b := wholeFrom d k) (ev_call (ea_cons (ev_var rfl) ea_nil) fun H1 e Q' q' E => ⟨v, d, rfl, dx_mono e hd, q'⟩) fun hw => ?_) ?_) q
  · cases hd with
    | int i => exact ev_I0 (ev_var rfl) (ev_var rfl)
    | _ => cases hw
  · cases d <;> rfl
theorem ok_is_row_number (T : Tp w K mg) : FnOk P w K mg base CX0 3 T.f_is_row_number T.d_is_row_number ["thing", "many"] (spNum K) := by
  refine T.F_is_row_number.ok sc_is_row_number (fun vs H Q E h => ?_) (fun cdv A outer s H vs Q E hr h => ?_)
  · obtain ⟨v, d, k, rfl, _⟩ := h
    rfl
  obtain ⟨v, d, k, rfl, hd, q⟩ := h
  refine ⟨_, (pss_one (ps_ret (pe_and (pe_call (ok_is_whole_from T) (hr.mono (by decide)) rfl T.m_is_whole_from T.F_is_whole_from.kp (b_is_whole_from T) .nil pass0 (pa_cons (pv 0) (pa_cons pe_int pa_nil (star1 rfl)) (star1 rfl)) (by decide) (star1 rfl) (starAll rfl)) (pe_one (pe_cmpR op_lt (pv 0) (pv 1) (nomark _)))))), ?_⟩
  refine s_ret (ev_is (ev_andV (a := wholeFrom d 0) (b := rowNum d k) (ev_call (ea_cons (ev_var rfl) (ea_cons ev_c ea_nil)) fun H1 e Q' q' E => ⟨v, d, 0, rfl, dx_mono e hd, q'⟩) fun hw => ?_) ?_) q
  · cases hd with
    | int i =>
      refine ev_is (ev_I0 (ev_var rfl) (ev_var rfl)) ?_
      have h0 : (0 : Int) ≤ i := of_decide_eq_true hw
      show V.bl (decide (i < k)) = V.bl (decide (0 ≤ i) && decide (i < k))
      rw [decide_eq_true h0, Bool.true_and]
    | _ => cases hw
  · cases d <;> simp [wholeFrom, rowNum]
theorem ok_word_fits_programs (T : Tp w K mg) : FnOk P w K mg base CX0 1 T.f_word_fits_programs T.d_word_fits_programs ["row", "many"] (spFit K fun ds _ => wordFits ds) := by
  refine T.F_word_fits_programs.ok sc_word_fits_programs (fun vs H Q E h => ?_) (fun cdv A outer s H vs Q E hr h => ?_)
  · obtain ⟨a, xs, ds, k, rfl, _⟩ := h
    rfl
  obtain ⟨a, xs, ds, k, rfl, hs, hd, hz, q⟩ := h
  refine ⟨_, (pss_one (ps_ret (pe_cmpR op_eq (pe_callB (lenK (K := K) rfl) rfl T.z_len PySem.boot_len (pa_cons (pv 0) pa_nil (star1 rfl)) (by decide) (by decide) (star1 rfl) (starAll rfl)) pe_int (nomark _)))), ?_⟩
  refine s_ret (ev_is (ev_eq (ev_lenT (ev_var rfl) hs) ev_c rfl) ?_) q
  rw [dxa_len hd]
  unfold wordFits
  congr 1
  simp
  omega
theorem ok_take_fits (T : Tp w K mg) : FnOk P w K mg base CX0 3 T.f_take_fits T.d_take_fits ["row", "many"] (spFit K fun ds _ => takeFits ds) := by
  refine T.F_take_fits.ok sc_take_fits (fun vs H Q E h => ?_) (fun cdv A outer s H vs Q E hr h => ?_)
  · obtain ⟨a, xs, ds, k, rfl, _⟩ := h
    rfl
  obtain ⟨a, xs, ds, k, rfl, hs, hd, hz, q⟩ := h
  refine ⟨_, (pss_one (ps_ret (pe_and (pe_cmpR op_eq (pe_callB (lenK (K := K) rfl) rfl T.z_len PySem.boot_len (pa_cons (pv 0) pa_nil (star1 rfl)) (by decide) (by decide) (star1 rfl) (starAll rfl)) pe_int (nomark _)) (pe_one (pe_or (pe_cmp (pc_isN (pe_ix (ixTK (K := K) rfl) (pv 0) pe_int (fun _ _ => rfl)))) (pe_one (pe_call (ok_is_whole_from T) (hr.mono (by decide)) rfl T.m_is_whole_from T.F_is_whole_from.kp (b_is_whole_from T) .nil pass0 (pa_cons (pe_ix (ixTK (K := K) rfl) (pv 0) pe_int (fun _ _ => rfl)) (pa_cons pe_int pa_nil (star1 rfl)) (star1 rfl)) (by decide) (star1 rfl) (starAll rfl)))))))), ?_⟩
  refine s_ret (ev_is (ev_andV (b := takeFits ds) (ev_eq (ev_lenT (ev_var rfl) hs) ev_c rfl) fun hl => ?_) (congrArg V.bl (and_of fun hb => is_len (m := 2) ((dxa_len hd).trans (takeFits_len hb))))) q
  obtain ⟨x, y, d, f, rfl, rfl, hx, hy⟩ := dxb2 hd (len_is (m := 2) hl)
  refine ev_is (ev_orV (ev_isN (ev_ixT (v := y) (ev_var rfl) ev_c hs rfl)) fun _ => ev_call (ea_cons (ev_ixT (v := y) (ev_var rfl) ev_c hs rfl) (ea_cons ev_c ea_nil)) fun H1 e Q' q' E => ⟨y, f, 0, rfl, dx_mono e hy, q'⟩) ?_
  cases hy <;> simp [takeFits]
theorem ok_say_fits (T : Tp w K mg) : FnOk P w K mg base CX0 3 T.f_say_fits T.d_say_fits ["row", "many"] (spFit K fun ds _ => sayFits ds) := by
  refine T.F_say_fits.ok sc_say_fits (fun vs H Q E h => ?_) (fun cdv A outer s H vs Q E hr h => ?_)
  · obtain ⟨a, xs, ds, k, rfl, _⟩ := h
    rfl
  obtain ⟨a, xs, ds, k, rfl, hs, hd, hz, q⟩ := h
  refine ⟨_, (pss_one (ps_ret (pe_and (pe_cmpR op_eq (pe_callB (lenK (K := K) rfl) rfl T.z_len PySem.boot_len (pa_cons (pv 0) pa_nil (star1 rfl)) (by decide) (by decide) (star1 rfl) (starAll rfl)) pe_int (nomark _)) (pe_and (pe_call (ok_is_whole_from T) (hr.mono (by decide)) rfl T.m_is_whole_from T.F_is_whole_from.kp (b_is_whole_from T) .nil pass0 (pa_cons (pe_ix (ixTK (K := K) rfl) (pv 0) pe_int (fun _ _ => rfl)) (pa_cons pe_int pa_nil (star1 rfl)) (star1 rfl)) (by decide) (star1 rfl) (starAll rfl)) (pe_one (pe_cmpR op_le (pe_ix (ixTK (K := K) rfl) (pv 0) pe_int (fun _ _ => rfl)) (pe_glob (v := .int 99) rfl T.c_MOST_SAID ⟨_, rfl⟩) (nomark _))))))), ?_⟩
  refine s_ret (ev_is (ev_andV (b := sayFits ds) (ev_eq (ev_lenT (ev_var rfl) hs) ev_c rfl) fun hl => ?_) (congrArg V.bl (and_of fun hb => is_len (m := 2) ((dxa_len hd).trans (sayFits_len hb))))) q
  obtain ⟨x, y, d, f, rfl, rfl, hx, hy⟩ := dxb2 hd (len_is (m := 2) hl)
  refine ev_is (ev_andV (a := wholeFrom f 0) (b := sayFits [d, f]) (ev_call (ea_cons (ev_ixT (v := y) (ev_var rfl) ev_c hs rfl) (ea_cons ev_c ea_nil)) fun H1 e Q' q' E => ⟨y, f, 0, rfl, dx_mono e hy, q'⟩) fun hw => ?_) ?_
  · cases hy with
    | int i =>
      refine ev_is (ev_I0 (ev_ixT (v := .int i) (ev_var rfl) ev_c hs rfl) ev_c) ?_
      have h0 : (0 : Int) ≤ i := of_decide_eq_true hw
      show V.bl (decide (i ≤ 99)) = V.bl (decide (0 ≤ i) && decide (i ≤ 99))
      rw [decide_eq_true h0, Bool.true_and]
    | _ => cases hw
  · cases f <;> simp [wholeFrom, sayFits]
theorem ok_goto_fits (T : Tp w K mg) : FnOk P w K mg base CX0 4 T.f_goto_fits T.d_goto_fits ["row", "many"] (spFit K fun ds k => gotoFits ds k) := by
  refine T.F_goto_fits.ok sc_goto_fits (fun vs H Q E h => ?_) (fun cdv A outer s H vs Q E hr h => ?_)
  · obtain ⟨a, xs, ds, k, rfl, _⟩ := h
    rfl
  obtain ⟨a, xs, ds, k, rfl, hs, hd, hz, q⟩ := h
  refine ⟨_, (pss_one (ps_ret (pe_and (pe_cmpR op_eq (pe_callB (lenK (K := K) rfl) rfl T.z_len PySem.boot_len (pa_cons (pv 0) pa_nil (star1 rfl)) (by decide) (by decide) (star1 rfl) (starAll rfl)) pe_int (nomark _)) (pe_one (pe_call (ok_is_row_number T) (hr.mono (by decide)) rfl T.m_is_row_number T.F_is_row_number.kp (b_is_row_number T) .nil pass0 (pa_cons (pe_ix (ixTK (K := K) rfl) (pv 0) pe_int (fun _ _ => rfl)) (pa_cons (pv 1) pa_nil (star1 rfl)) (star1 rfl)) (by decide) (star1 rfl) (starAll rfl)))))), ?_⟩
  refine s_ret (ev_is (ev_andV (b := gotoFits ds k) (ev_eq (ev_lenT (ev_var rfl) hs) ev_c rfl) fun hl => ?_) (congrArg V.bl (and_of fun hb => is_len (m := 2) ((dxa_len hd).trans (gotoFits_len hb))))) q
  obtain ⟨x, y, d, f, rfl, rfl, hx, hy⟩ := dxb2 hd (len_is (m := 2) hl)
  exact ev_call (ea_cons (ev_ixT (v := y) (ev_var rfl) ev_c hs rfl) (ea_cons (ev_var rfl) ea_nil)) fun H1 e Q' q' E => ⟨y, f, k, rfl, dx_mono e hy, q'⟩
theorem ok_if_fits (T : Tp w K mg) : FnOk P w K mg base CX0 4 T.f_if_fits T.d_if_fits ["row", "many"] (spFit K fun ds k => ifFits ds k) := by
  refine T.F_if_fits.ok sc_if_fits (fun vs H Q E h => ?_) (fun cdv A outer s H vs Q E hr h => ?_)
  · obtain ⟨a, xs, ds, k, rfl, _⟩ := h
    rfl
  obtain ⟨a, xs, ds, k, rfl, hs, hd, hz, q⟩ := h
  refine ⟨_, (pss_one (ps_ret (pe_and (pe_cmpR op_eq (pe_callB (lenK (K := K) rfl) rfl T.z_len PySem.boot_len (pa_cons (pv 0) pa_nil (star1 rfl)) (by decide) (by decide) (star1 rfl) (starAll rfl)) pe_int (nomark _)) (pe_and (pe_call (ok_is_whole T) (hr.mono (by decide)) rfl T.m_is_whole T.F_is_whole.kp (b_is_whole T) .nil pass0 (pa_cons (pe_ix (ixTK (K := K) rfl) (pv 0) pe_int (fun _ _ => rfl)) pa_nil (star1 rfl)) (by decide) (star1 rfl) (starAll rfl)) (pe_one (pe_call (ok_is_row_number T) (hr.mono (by decide)) rfl T.m_is_row_number T.F_is_row_number.kp (b_is_row_number T) .nil pass0 (pa_cons (pe_ix (ixTK (K := K) rfl) (pv 0) pe_int (fun _ _ => rfl)) (pa_cons (pv 1) pa_nil (star1 rfl)) (star1 rfl)) (by decide) (star1 rfl) (starAll rfl))))))), ?_⟩
  refine s_ret (ev_is (ev_andV (b := ifFits ds k) (ev_eq (ev_lenT (ev_var rfl) hs) ev_c rfl) fun hl => ?_) (congrArg V.bl (and_of fun hb => is_len (m := 3) ((dxa_len hd).trans (ifFits_len hb))))) q
  obtain ⟨x, y, z, d, f, g, rfl, rfl, hx, hy, hz⟩ := dxb3 hd (len_is (m := 3) hl)
  exact ev_andV (a := isWhole f) (b := rowNum g k) (ev_call (ea_cons (ev_ixT (v := y) (ev_var rfl) ev_c hs rfl) ea_nil) fun H1 e Q' q' E => ⟨y, f, rfl, dx_mono e hy, q'⟩)
    fun _ => ev_call (ea_cons (ev_ixT (v := z) (ev_var rfl) ev_c hs rfl) (ea_cons (ev_var rfl) ea_nil)) fun H1 e Q' q' E => ⟨z, g, k, rfl, dx_mono e hz, q'⟩
end
section
variable {P : Program} {w : World} {K : PySem.W.Frag} {mg : Str → Option Value} {base : Heap}
theorem ev_callA {i : Nat} {S : Addr → Option Sp} {t : TA} {σ : L2.St} {H : Hp} {vs : List V} {z : V} {f : Addr} {sp : Sp} (hf : σ[i]? = some (some (.ref f))) (hS : S f = some sp) (h : EvA t σ H vs) (hs : SpV sp vs H z) : Ev (tCallA i S t) σ H z := by
  intro H1 e Q q
  exact ⟨f, sp, hf, hS, h H1 e _ fun H2 e2 => hs H2 (e.trans e2) Q (fun H3 e3 => q H3 (e2.trans e3)) _⟩
/-- which promise goes with which def of the table -/
def fitS (T : Tp w K mg) : Addr → Option Sp := fun f =>
  if f = T.f_take_fits then some (spFit K fun ds _ => takeFits ds) else if f = T.f_word_fits_programs then some (spFit K fun ds _ => wordFits ds) else if f = T.f_say_fits then some (spFit K fun ds _ => sayFits ds) else if f = T.f_goto_fits then some (spFit K fun ds k => gotoFits ds k) else if f = T.f_if_fits then some (spFit K fun ds k => ifFits ds k) else none
theorem fit_take (T : Tp w K mg) : fitS T T.f_take_fits = some (spFit K fun ds _ => takeFits ds) := if_pos rfl
theorem fit_word (T : Tp w K mg) : fitS T T.f_word_fits_programs = some (spFit K fun ds _ => wordFits ds) := by
  have n := T.nd
  simp only [List.nodup_cons, List.mem_cons, List.not_mem_nil, or_false, not_or] at n
  unfold fitS
  rw [if_neg (fun z => n.1.1 z.symm), if_pos rfl]
theorem fit_say (T : Tp w K mg) : fitS T T.f_say_fits = some (spFit K fun ds _ => sayFits ds) := by
  have n := T.nd
  simp only [List.nodup_cons, List.mem_cons, List.not_mem_nil, or_false, not_or] at n
  unfold fitS
  rw [if_neg (fun z => n.1.2.1 z.symm), if_neg (fun z => n.2.1.1 z.symm), if_pos rfl]
theorem fit_goto (T : Tp w K mg) : fitS T T.f_goto_fits = some (spFit K fun ds k => gotoFits ds k) := by
  have n := T.nd
  simp only [List.nodup_cons, List.mem_cons, List.not_mem_nil, or_false, not_or] at n
  unfold fitS
  rw [if_neg (fun z => n.1.2.2.1 z.symm), if_neg (fun z => n.2.1.2.1 z.symm), if_neg (fun z => n.2.2.1.1 z.symm), if_pos rfl]
theorem fit_if (T : Tp w K mg) : fitS T T.f_if_fits = some (spFit K fun ds k => ifFits ds k) := by
  have n := T.nd
  simp only [List.nodup_cons, List.mem_cons, List.not_mem_nil, or_false, not_or] at n
  unfold fitS
  rw [if_neg (fun z => n.1.2.2.2 z.symm), if_neg (fun z => n.2.1.2.2 z.symm), if_neg (fun z => n.2.2.1.2 z.symm), if_neg (fun z => n.2.2.2.1 z.symm), if_pos rfl]
theorem fitHeld (T : Tp w K mg) : ∀ f sp, fitS T f = some sp → Held P w K mg base 4 f sp := by
  intro f sp h
  unfold fitS at h
  split at h
  · rename_i e; subst e; cases h; exact ⟨_, _, (ok_take_fits T).mono (by decide), T.F_take_fits.kp, b_take_fits T⟩
  split at h
  · rename_i e; subst e; cases h; exact ⟨_, _, (ok_word_fits_programs T).mono (by decide), T.F_word_fits_programs.kp, b_word_fits_programs T⟩
  split at h
  · rename_i e; subst e; cases h; exact ⟨_, _, (ok_say_fits T).mono (by decide), T.F_say_fits.kp, b_say_fits T⟩
  split at h
  · rename_i e; subst e; cases h; exact ⟨_, _, (ok_goto_fits T).mono (by decide), T.F_goto_fits.kp, b_goto_fits T⟩
  split at h
  · rename_i e; subst e; cases h; exact ⟨_, _, (ok_if_fits T).mono (by decide), T.F_if_fits.kp, b_if_fits T⟩
  cases h
theorem rowFits_no {d : PyData} {k : Int} (h : ∀ z ds, d ≠ .tuple (.str z :: ds)) : rowFits d k = false := by
  unfold rowFits
  split
  · exact absurd rfl (h _ _)
  · rfl
theorem ok_row_fits (T : Tp w K mg) : FnOk P w K mg base CX0 5 T.f_row_fits T.d_row_fits ["row", "many"] (spRowFits K) := by
  refine T.F_row_fits.ok sc_row_fits (fun vs H Q E h => ?_) (fun cdv A outer s H vs Q E hr h => ?_)
  · obtain ⟨v, d, k, rfl, _⟩ := h
    rfl
  obtain ⟨v, d, k, rfl, hd, hz, q⟩ := h
  refine ⟨_, (pss_cons (ps_if (PW.pt (pw_or (pt_not (pt_val (pe_callB (isiK (K := K) rfl) rfl T.z_isinstance (by decide +kernel) (pa_cons (pv 0) (pa_cons (pe_bltn (v := .ty "tuple") rfl T.z_tuple (by decide +kernel) rfl) pa_nil (star1 rfl)) (star1 rfl)) (by decide) (by decide) (star1 rfl) (starAll rfl)))) (pw_or1 (pt_cmpR op_eq (pe_callB (lenK (K := K) rfl) rfl T.z_len PySem.boot_len (pa_cons (pv 0) pa_nil (star1 rfl)) (by decide) (by decide) (star1 rfl) (starAll rfl)) pe_int (nomark _))))) (pss_one (ps_ret pe_bl)) pss_nil)
  (pss_cons (ps_set (i := 2) sc_row_fits.nd rfl (Or.inl rfl) (pe_ix (ixTK (K := K) rfl) (pv 0) pe_int (fun _ _ => rfl)))
  (pss_cons (ps_if (PW.pt (pw_or (pt_not (pt_val (pe_callB (isiK (K := K) rfl) rfl T.z_isinstance (by decide +kernel) (pa_cons (pv 2) (pa_cons (pe_bltn (v := .ty "str") rfl T.z_str (by decide +kernel) rfl) pa_nil (star1 rfl)) (star1 rfl)) (by decide) (by decide) (star1 rfl) (starAll rfl)))) (pw_or1 (pt_cmpR op_notInK (pv 2) (pe_glob (v := .ref T.a_FORMS) rfl T.c_FORMS rfl) (by with_unfolding_all rfl))))) (pss_one (ps_ret pe_bl)) pss_nil)
  (pss_cons (ps_set (i := 3) sc_row_fits.nd rfl (Or.inl rfl) (pe_ix ix_kdict (pe_glob (v := .ref T.a_FORMS) rfl T.c_FORMS rfl) (pv 2) (fun _ _ => rfl)))
  (pss_one (ps_ret (pe_callA (S := fitS T) (fitHeld T) (hr.mono (by decide)) (i := 3) rfl (Or.inl rfl) (pa_cons (pv 0) (pa_cons (pv 1) pa_nil (star1 rfl)) (star1 rfl)) (by decide) (by decide) (star1 rfl) (starAll rfl)))))))), ?_⟩
  by_cases ht : isTupB d = true
  case neg =>
    have hb : isTupB d = false := by simpa using ht
    refine s_if (b := true) (et_is (et_or (b := false) (et_not (et_B (ev_isX (ev_var rfl) hd (kt_tuple d)))) fun h => ?_) (by rw [hb]; rfl)) (fun _ H1 e1 => ?_) (fun h => by cases h)
    · rw [hb] at h
      cases h
    · refine s_ret ev_c fun H2 e2 => ?_
      have e : rowFits d k = false := rowFits_no fun z ds h => by
        subst h
        cases hb
      have q2 := q H2 (e1.trans e2)
      rw [e] at q2
      exact q2
  cases hd with
  | tup hs ha =>
    rename_i a xs ds
    have hz2 : xs.length ≤ 40000 := by rw [dxa_len ha]; exact hz ds rfl
    have hl : EvT (tOr (tNot (tB (tCB (rIsi K) (tCons (tVar 0) (tCons (tC (.ty "tuple")) tNil))))) (tTest (tOp rEq (tCB (rLenS K) (tCons (tVar 0) tNil)) (tC (.int 0))))) (start N_row_fits [.ref a, .int k]) H (decide (V.int (xs.length : Int) = V.int 0)) :=
      et_is (et_or (et_not (et_B (ev_isX (ev_var rfl) (Dx.tup hs ha) (kt_tuple (.tuple ds))))) fun _ => et_test (ev_eq (ev_lenT (ev_var rfl) hs) ev_c rfl)) rfl
    refine s_if hl (fun h0 H1 e1 => ?_) (fun h0 H1 e1 => ?_)
    · have e0 : xs.length = 0 := len_is (m := 0) h0
      refine s_ret ev_c fun H2 e2 => ?_
      have e : rowFits (.tuple ds) k = false := rowFits_no fun z es h => by
        cases h
        have := dxa_len ha
        rw [e0] at this
        cases this
      have q2 := q H2 (e1.trans e2)
      rw [e] at q2
      exact q2
    · cases ha with
      | nil => exact absurd h0 (by decide)
      | cons hx hr' =>
        rename_i x xs' d ds'
        refine s_asg (v := x) (ev_ixT (v := x) (ev_var rfl) ev_c (ex_t e1 hs) ?_) fun H2 e2 => ?_
        · simp [atI, ixN]
        have hx2 := dx_mono (e1.trans e2) hx
        by_cases hst : isStrB d = true
        case neg =>
          have hb : isStrB d = false := by simpa using hst
          refine s_if (b := true) (et_is (et_or (b := false) (et_not (et_B (ev_isX (ev_var rfl) hx2 (kt_str d)))) fun h => ?_) (by rw [hb]; rfl)) (fun _ H3 e3 => ?_) (fun h => by cases h)
          · rw [hb] at h
            cases h
          · refine s_ret ev_c fun H4 e4 => ?_
            have e : rowFits (.tuple (d :: ds')) k = false := rowFits_no fun z es h => by
              cases h
              cases hb
            have q2 := q H4 (((e1.trans e2).trans e3).trans e4)
            rw [e] at q2
            exact q2
        cases hx with
        | str z =>
          refine s_if (et_is (et_or (et_not (et_B (ev_isX (ev_var rfl) hx2 (kt_str (.str z))))) fun _ => et_test (ev_op (ev_var rfl) ev_c (rv_notInK T.D_FORMS))) (Bool.false_or _)) (fun h1 H3 e3 => ?_) (fun h1 H3 e3 => ?_)
          · refine s_ret ev_c fun H4 e4 => ?_
            have e : rowFits (.tuple (.str z :: ds')) k = false := by
              unfold rowFits
              simp only at h1 ⊢
              split at h1
              · cases h1
              · rename_i n1
                rw [if_neg n1]
                split at h1
                · cases h1
                · rename_i n2
                  rw [if_neg n2]
                  split at h1
                  · cases h1
                  · rename_i n3
                    rw [if_neg n3]
                    split at h1
                    · cases h1
                    · rename_i n4
                      rw [if_neg n4]
                      split at h1
                      · cases h1
                      · rename_i n5
                        rw [if_neg n5]
                        split at h1
                        · cases h1
                        · rename_i n6
                          rw [if_neg n6]
            have q2 := q H4 (((e1.trans e2).trans e3).trans e4)
            rw [e] at q2
            exact q2
          · have hs3 := ex_t ((e1.trans e2).trans e3) hs
            have ha3 : DxAll K H3 (.str z :: xs') (.str z :: ds') := dxa_mono ((e1.trans e2).trans e3) (.cons (.str z) hr')
            have go : ∀ (f : Addr) (g : List PyData → Int → Bool), (if z = "take" then some (Value.ref T.f_take_fits) else if z = "try" then some (.ref T.f_word_fits_programs) else if z = "let" then some (.ref T.f_word_fits_programs) else if z = "say" then some (.ref T.f_say_fits) else if z = "goto" then some (.ref T.f_goto_fits) else if z = "if" then some (.ref T.f_if_fits) else none) = some (.ref f) →
                fitS T f = some (spFit K g) → g (.str z :: ds') k = rowFits (.tuple (.str z :: ds')) k →
                tSeq (tAsg (tOp (rIxD K w) (tC (.ref T.a_FORMS)) (tVar 2)) (gName 3)) (tRet (tCallA 3 (fitS T) (tCons (tVar 0) (tCons (tVar 1) tNil)))) { nx := fun _ H' => Q .non H', rt := Q } ((start N_row_fits [.ref a, .int k]).set 2 (some (.str z))) H3 := by
              intro f g hf hh hg
              refine s_asg (v := .ref f) (ev_op ev_c (ev_var rfl) (rv_ixD T.D_FORMS hf)) fun H4 e4 => ?_
              refine s_ret (ev_callA (f := f) (sp := spFit K g) (z := .bl (rowFits (.tuple (.str z :: ds')) k)) rfl hh (ea_cons (ev_var rfl) (ea_cons (ev_var rfl) ea_nil)) ?_) fun H5 e5 => q H5 ((((e1.trans e2).trans e3).trans e4).trans e5)
              intro H6 e6 Q' q' E'
              rw [← hg] at q'
              exact ⟨a, _, _, k, rfl, ex_t (e4.trans e6) hs3, dxa_mono (e4.trans e6) ha3, hz2, q'⟩
            by_cases n1 : z = "take"
            · exact go _ _ (by rw [if_pos n1]) (fit_take T) (by unfold rowFits; simp only [if_pos n1])
            by_cases n2 : z = "try"
            · exact go _ _ (by rw [if_neg n1, if_pos n2]) (fit_word T) (by unfold rowFits; simp only [if_neg n1, if_pos n2])
            by_cases n3 : z = "let"
            · exact go _ _ (by rw [if_neg n1, if_neg n2, if_pos n3]) (fit_word T) (by unfold rowFits; simp only [if_neg n1, if_neg n2, if_pos n3])
            by_cases n4 : z = "say"
            · exact go _ _ (by rw [if_neg n1, if_neg n2, if_neg n3, if_pos n4]) (fit_say T) (by unfold rowFits; simp only [if_neg n1, if_neg n2, if_neg n3, if_pos n4])
            by_cases n5 : z = "goto"
            · exact go _ _ (by rw [if_neg n1, if_neg n2, if_neg n3, if_neg n4, if_pos n5]) (fit_goto T) (by unfold rowFits; simp only [if_neg n1, if_neg n2, if_neg n3, if_neg n4, if_pos n5])
            by_cases n6 : z = "if"
            · exact go _ _ (by rw [if_neg n1, if_neg n2, if_neg n3, if_neg n4, if_neg n5, if_pos n6]) (fit_if T) (by unfold rowFits; simp only [if_neg n1, if_neg n2, if_neg n3, if_neg n4, if_neg n5, if_pos n6])
            · simp only [if_neg n1, if_neg n2, if_neg n3, if_neg n4, if_neg n5, if_neg n6] at h1
              cases h1
        | _ => cases hst
  | _ => cases ht
theorem all_range {n : Nat} {ds : List PyData} (hl : n = ds.length) : ((List.range n).map fun i => rowFits (ds.getD i .none) ds.length).all id = progFits (.tuple ds) := by
  unfold progFits
  rw [hl, List.all_map]
  rw [Bool.eq_iff_iff, List.all_eq_true, List.all_eq_true]
  constructor
  · intro h d hd
    obtain ⟨i, hi, e⟩ := List.getElem_of_mem hd
    have := h i (List.mem_range.mpr hi)
    simp only [Function.comp, id] at this
    rw [List.getD_eq_getElem?_getD, List.getElem?_eq_getElem hi] at this
    simpa [e] using this
  · intro h i hi
    have hi := List.mem_range.mp hi
    simp only [Function.comp, id]
    rw [List.getD_eq_getElem?_getD, List.getElem?_eq_getElem hi]
    exact h _ (List.getElem_mem hi)
theorem ok_is_program (T : Tp w K mg) : FnOk P w K mg base CX0 6 T.f_is_program T.d_is_program ["thing"] (spProg K) := by
  refine T.F_is_program.ok sc_is_program (fun vs H Q E h => ?_) (fun cdv A outer s H vs Q E hr h => ?_)
  · obtain ⟨v, d, rfl, _⟩ := h
    rfl
  obtain ⟨v, d, rfl, hd, hz, q⟩ := h
  refine ⟨_, (pss_cons (ps_if (pt_not (pt_val (pe_callB (isiK (K := K) rfl) rfl T.z_isinstance (by decide +kernel) (pa_cons (pv 0) (pa_cons (pe_bltn (v := .ty "tuple") rfl T.z_tuple (by decide +kernel) rfl) pa_nil (star1 rfl)) (star1 rfl)) (by decide) (by decide) (star1 rfl) (starAll rfl)))) (pss_one (ps_ret pe_bl)) pss_nil)
  (pss_one (ps_ret (pe_callB (allK (K := K) rfl rfl) rfl T.z_all (by decide +kernel) (pa_cons (pe_lc (own := [("row", 1)]) (g := gName 1) (tt := tYes) rfl sc_is_program.nd (pi_tup (pv 0)) (blkOk_by (N := N_is_program) (sc := defScope s_is_program) (by decide +kernel)) (fun _ _ _ _ _ => (pg_name (i := 1) sc_is_program.nd rfl (Or.inl rfl))) (fun _ _ _ _ _ => pts_nil) (fun _ _ _ _ _ => (pe_call (ok_row_fits T) (hr.mono (by decide)) rfl T.m_row_fits T.F_row_fits.kp (b_row_fits T) .nil pass0 (pa_cons (pv 1) (pa_cons (pe_callB (lenK (K := K) rfl) rfl T.z_len PySem.boot_len (pa_cons (pv 0) pa_nil (star1 rfl)) (by decide) (by decide) (star1 rfl) (starAll rfl)) pa_nil (star1 rfl)) (star1 rfl)) (by decide) (star1 rfl) (starAll rfl)))) pa_nil (star1 rfl)) (by decide) (by decide) (star1 rfl) (starAll rfl))))), ?_⟩
  refine s_if (et_not (et_B (ev_isX (ev_var rfl) hd (kt_tuple d)))) (fun hb H1 e1 => ?_) (fun hb H1 e1 => ?_)
  · refine s_ret ev_c fun H2 e2 => ?_
    have e : progFits d = false := by
      cases d <;> first | rfl | cases hb
    have q2 := q H2 (e1.trans e2)
    rw [e] at q2
    exact q2
  · cases hd with
    | tup hs ha =>
      rename_i a xs ds
      have hl := dxa_len ha
      have hz1 : ds.length ≤ 40000 := hz.1
      refine s_next ?_
      dsimp only
      refine s_ret (ev_is (ev_allN (bs := (List.range xs.length).map fun i => rowFits (ds.getD i .none) ds.length) ?_) (w := .bl (progFits (.tuple ds))) ?_) ?_
      rotate_left 2
      · exact fun H2 e2 => q H2 (e1.trans e2)
      · have c := el_lcT (K := K) (σ := start N_is_program [.ref a]) (H := H1) (tl := tVar 0) (tt := tYes) (te := tCall (spRowFits K) [] E0 (tCons (tVar 1) (tCons (tCB (rLenS K) (tCons (tVar 0) tNil)) tNil))) (j := 1) (vs := [1]) (fun _ => true) (fun i => .bl (rowFits (ds.getD i .none) ds.length))
          (ev_var rfl) (ex_t e1 hs) (by omega) (fun x => rfl) (fun i x H2 e2 hi => et_yes) (fun i x H2 e2 hi _ => ?_)
        · rw [given_all] at c
          rw [List.map_map]
          exact c
        · obtain ⟨d, h1, h2⟩ := dxa_get ha hi
          have e : ds.getD i .none = d := by rw [List.getD_eq_getElem?_getD, h1]; rfl
          rw [e]
          refine ev_call (vs := [x, .int xs.length]) (ea_cons (ev_var rfl) (ea_cons (ev_lenT (ev_var rfl) (ex_t (e1.trans e2) hs)) ea_nil)) fun H3 e3 Q' q' E' => ⟨x, d, (xs.length : Int), rfl, dx_mono ((e1.trans e2).trans e3) h2, ?_, ?_⟩
          · intro es hes
            exact hz.2 d (List.mem_of_getElem? h1) es hes
          · rw [hl]
            exact q'
      · exact congrArg V.bl (all_range hl)
    | _ => cases hb
end
/-! ### tuples, names -/
def tupOf (d : PyData) (k : Int) : Bool := match d with
  | .tuple ds => decide ((ds.length : Int) = k)
  | _ => false
def spTupOf (K : PySem.W.Frag) : Sp := fun vs H Q _ => ∃ v d k, vs = [v, .int k] ∧ Dx K H v d ∧ ∀ H', Ex H H' → Q (.bl (tupOf d k)) H'
def shortStr : PyData → Prop
  | .str s => s.length ≤ 1000000
  | _ => True
def lettersB (z : Str) : Bool := z.cps.toList.all fun c => decide (c ∈ ("abcdefghijklmnopqrstuvwxyz" : Str).cps.toList)
def spLetters (K : PySem.W.Frag) : Sp := fun vs H Q _ => ∃ z : Str, vs = [.str z] ∧ z.cps.size ≤ 40000 ∧ ∀ H', Ex H H' → Q (.bl (decide (1 ≤ z.length) && lettersB z)) H'
def spIsName (K : PySem.W.Frag) : Sp := fun vs H Q _ => ∃ v d, vs = [v] ∧ Dx K H v d ∧ shortStr d ∧ ∀ H', Ex H H' → Q (.bl (isNm d)) H'
section
variable {P : Program} {w : World} {K : PySem.W.Frag} {mg : Str → Option Value} {base : Heap}
theorem ok_is_tuple_of (T : Tp w K mg) : FnOk P w K mg base CX0 1 T.f_is_tuple_of T.d_is_tuple_of ["thing", "many"] (spTupOf K) := by
  refine T.F_is_tuple_of.ok sc_is_tuple_of (fun vs H Q E h => ?_) (fun cdv A outer s H vs Q E hr h => ?_)
  · obtain ⟨v, d, k, rfl, _⟩ := h
    rfl
  obtain ⟨v, d, k, rfl, hd, q⟩ := h
  refine ⟨_, (pss_one (ps_ret (pe_and (pe_callB (isiK (K := K) rfl) rfl T.z_isinstance (by decide +kernel) (pa_cons (pv 0) (pa_cons (pe_bltn (v := .ty "tuple") rfl T.z_tuple (by decide +kernel) rfl) pa_nil (star1 rfl)) (star1 rfl)) (by decide) (by decide) (star1 rfl) (starAll rfl)) (pe_one (pe_cmpR op_eq (pe_callB (lenK (K := K) rfl) rfl T.z_len PySem.boot_len (pa_cons (pv 0) pa_nil (star1 rfl)) (by decide) (by decide) (star1 rfl) (starAll rfl)) (pv 1) (nomark _)))))), ?_⟩
  refine s_ret (ev_is (ev_andV (b := tupOf d k) (ev_isX (ev_var rfl) hd (kt_tuple d)) fun ht => ?_) ?_) q
  · cases hd with
    | tup hs ha =>
      refine ev_is (ev_eq (ev_lenT (ev_var rfl) hs) (ev_var rfl) rfl) ?_
      rw [dxa_len ha]
      simp [tupOf]
    | _ => cases ht
  · cases d <;> simp [tupOf, isTupB]
theorem letters_all {z : Str} : ((List.range z.cps.size).map fun i => decide (z.cps.getD i 0 ∈ ("abcdefghijklmnopqrstuvwxyz" : Str).cps.toList)).all id = lettersB z := by
  unfold lettersB
  rw [List.all_map, Bool.eq_iff_iff, List.all_eq_true, List.all_eq_true]
  constructor
  · intro h c hc
    obtain ⟨i, hi, e⟩ := List.getElem_of_mem hc
    have hi2 : i < z.cps.size := by simpa using hi
    have := h i (List.mem_range.mpr hi2)
    simp only [Function.comp, id] at this
    have e2 : z.cps.getD i 0 = c := by
      rw [← e]
      simp [Array.getD_eq_getD_getElem?, hi2]
    rw [e2] at this
    exact this
  · intro h i hi
    have hi2 := List.mem_range.mp hi
    simp only [Function.comp, id]
    refine h _ ?_
    have e2 : z.cps.getD i 0 = z.cps[i] := by simp [Array.getD_eq_getD_getElem?, hi2]
    rw [e2]
    simp
theorem ev_lenS {z : Str} {i : Nat} {H2 : Hp} {σ' : L2.St} (hz : z.length ≤ 1000000) (hσ : σ'[i]? = some (some (.str z))) : Ev (tCB (fun xs H Q => ∃ x n, xs = [x] ∧ LenV K x H n ∧ Q (.int n) H) (tCons (tVar i) tNil)) σ' H2 (.int (z.length : Int)) := fun H3 e3 Q' q' => ⟨_, hσ, .str z, z.length, rfl, ⟨Nat.le_trans hz (by decide), rfl⟩, q' H3 (Ex.refl H3)⟩
theorem ok_is_letters (T : Tp w K mg) : FnOk P w K mg base CX0 1 T.f_is_letters T.d_is_letters ["word"] (spLetters K) := by
  refine T.F_is_letters.ok sc_is_letters (fun vs H Q E h => ?_) (fun cdv A outer s H vs Q E hr h => ?_)
  · obtain ⟨z, rfl, _⟩ := h
    rfl
  obtain ⟨z, rfl, hz, q⟩ := h
  refine ⟨_, (pss_one (ps_ret (pe_and (pe_cmpR op_gt (pe_callB call_len rfl T.z_len PySem.boot_len (pa_cons (pv 0) pa_nil (star1 rfl)) (by decide) (by decide) (star1 rfl) (starAll rfl)) pe_int (nomark _)) (pe_one (pe_callB (allK (K := K) rfl rfl) rfl T.z_all (by decide +kernel) (pa_cons (pe_lc (own := [("sign", 1)]) (g := gName 1) (tt := tYes) rfl sc_is_letters.nd (pi_str (pv 0)) (blkOk_by (N := N_is_letters) (sc := defScope s_is_letters) (by decide +kernel)) (fun _ _ _ _ _ => (pg_name (i := 1) sc_is_letters.nd rfl (Or.inl rfl))) (fun _ _ _ _ _ => pts_nil) (fun _ _ _ _ _ => (pe_cmpR op_in_sign (pv 1) (pe_glob (v := .str "abcdefghijklmnopqrstuvwxyz") rfl T.c_LETTERS ⟨_, rfl⟩) (by with_unfolding_all rfl)))) pa_nil (star1 rfl)) (by decide) (by decide) (star1 rfl) (starAll rfl)))))), ?_⟩
  have hz2 : z.length ≤ 1000000 := Nat.le_trans (show z.cps.size ≤ 40000 from hz) (by decide)
  refine s_ret (ev_andV (ev_is (ev_I0 (ev_lenS hz2 rfl) ev_c) (w := .bl (decide (1 ≤ z.length))) ?_) fun _ => ev_is (ev_allN (bs := (List.range z.cps.size).map fun i => decide (z.cps.getD i 0 ∈ ("abcdefghijklmnopqrstuvwxyz" : Str).cps.toList)) ?_) (w := .bl (lettersB z)) ?_) q
  · congr 1
    exact decide_eq_decide.mpr (by omega)
  · have c := el_lcS (σ := start N_is_letters [.str z]) (H := H) (z := z) (tl := tVar 0) (te := tOp (fun x y H Q => ∃ (c : Nat) (z : Str), x = .str ⟨#[c]⟩ ∧ y = .str z ∧ Q (.bl (decide (c ∈ z.cps.toList))) H) (tVar 1) (tC (.str "abcdefghijklmnopqrstuvwxyz"))) (j := 1) (vs := [1]) (fun i => .bl (decide (z.cps.getD i 0 ∈ ("abcdefghijklmnopqrstuvwxyz" : Str).cps.toList))) (ev_var rfl) hz (fun x => rfl) (fun i c H3 e3 hi => ?_)
    · rw [List.map_map]
      exact c
    · have e : z.cps.getD i 0 = c := by simp [Array.getD_eq_getD_getElem?, hi]
      rw [e]
      exact ev_op (ev_var rfl) ev_c fun H4 _ Q' q' => ⟨c, _, rfl, rfl, q' H4 (Ex.refl H4)⟩
  · rw [letters_all]
theorem ok_is_name (T : Tp w K mg) : FnOk P w K mg base CX0 2 T.f_is_name T.d_is_name ["thing"] (spIsName K) := by
  refine T.F_is_name.ok sc_is_name (fun vs H Q E h => ?_) (fun cdv A outer s H vs Q E hr h => ?_)
  · obtain ⟨v, d, rfl, _⟩ := h
    rfl
  obtain ⟨v, d, rfl, hd, hsh, q⟩ := h
  refine ⟨_, (pss_one (ps_ret (pe_and (pe_callB (isiK (K := K) rfl) rfl T.z_isinstance (by decide +kernel) (pa_cons (pv 0) (pa_cons (pe_bltn (v := .ty "str") rfl T.z_str (by decide +kernel) rfl) pa_nil (star1 rfl)) (star1 rfl)) (by decide) (by decide) (star1 rfl) (starAll rfl)) (pe_and (pe_cmpR op_le (pe_callB call_len rfl T.z_len PySem.boot_len (pa_cons (pv 0) pa_nil (star1 rfl)) (by decide) (by decide) (star1 rfl) (starAll rfl)) (pe_glob (v := .int 8) rfl T.c_LONGEST ⟨_, rfl⟩) (nomark _)) (pe_one (pe_call (ok_is_letters T) (hr.mono (by decide)) rfl T.m_is_letters T.F_is_letters.kp (b_is_letters T) .nil pass0 (pa_cons (pv 0) pa_nil (star1 rfl)) (by decide) (star1 rfl) (starAll rfl))))))), ?_⟩
  refine s_ret (ev_is (ev_andV (b := isNm d) (ev_isX (ev_var rfl) hd (kt_str d)) fun hb => ?_) ?_) q
  · cases hd with
    | str z =>
      have hz : z.length ≤ 1000000 := hsh
      refine ev_is (ev_andV (a := decide ((z.length : Int) ≤ 8)) (b := decide (1 ≤ z.length) && lettersB z) (ev_is (ev_I0 (ev_lenS hz rfl) ev_c) rfl) fun h8 => ev_call (ea_cons (ev_var rfl) ea_nil) fun H1 e Q' q' E => ⟨z, rfl, ?_, q'⟩) ?_
      · have := of_decide_eq_true h8
        have : z.length ≤ 8 := by omega
        exact Nat.le_trans this (by decide)
      · congr 1
        show _ = nameB z
        unfold nameB lettersB
        rw [← Bool.and_assoc, Bool.and_comm (decide ((z.length : Int) ≤ 8))]
        congr 2
        exact decide_eq_decide.mpr (by omega)
    | _ => cases hb
  · cases d <;> first | rfl | simp [isStrB, isNm]
end
theorem q_dputP {td ty tv : TE} {tz : TS} {D : Ends} {σ : L2.St} {H : Hp} (h : tv σ H fun v H1 => td σ H1 fun x H2 => ty σ H2 fun y H3 => ∃ a H4, x = .ref a ∧ DPut H3 a y v H4 ∧ tz D σ H4) : tSeq (sDPut td ty tv) tz D σ H := h
def spForm (K : PySem.W.Frag) : Sp := fun vs H Q _ => ∃ v d, vs = [v] ∧ Dx K H v d ∧ ∀ H', Ex H H' → Q (.bl (formB d)) H'
def PostM (sd : Addr) (ns : List Str) (d : PyData) (H : Hp) (Q : VK) : Prop := ∀ (b : Bool) (ms : List Str) (H' : Hp), KD sd H H' → H' sd = some (.dK (ms.map ky)) → (b = true → ∃ n is, hdM d = some (n, is) ∧ nameB n = true ∧ n ∉ ns ∧ ms = ns ++ [n]) → (b = false → goesB d ns = false) → Q (.bl b) H'
def spMF (K : PySem.W.Frag) : Sp := fun vs H Q _ => ∃ v d sd ns, vs = [v, .ref sd] ∧ Dx K H v d ∧ shorts d ∧ H sd = some (.dK (ns.map ky)) ∧ ns.length ≤ 60000 ∧ PostM sd ns d H Q
def spIsPlan (K : PySem.W.Frag) : Sp := fun vs H Q _ => ∃ v d, vs = [v] ∧ Dx K H v d ∧ shorts d ∧ d.depth ≤ 30 ∧ nodes d ≤ 50000 ∧ ∀ H', Ex H H' → Q (.bl (planB d)) H'
/-- the name that a member tells -/
def tells (d dn : PyData) : Prop := (∀ n, dn = .str n → ∃ is, hdM d = some (n, is)) ∧ ((∀ n, dn ≠ .str n) → hdM d = none)
section
variable {P : Program} {w : World} {K : PySem.W.Frag} {mg : Str → Option Value} {base : Heap}
theorem ok_has_group_form (T : Tp w K mg) : FnOk P w K mg base CX0 3 T.f_has_group_form T.d_has_group_form ["thing"] (spForm K) := by
  refine T.F_has_group_form.ok sc_has_group_form (fun vs H Q E h => ?_) (fun cdv A outer s H vs Q E hr h => ?_)
  · obtain ⟨v, d, rfl, _⟩ := h
    rfl
  obtain ⟨v, d, rfl, hd, q⟩ := h
  refine ⟨_, (pss_cons (ps_if (pt_not (pt_val (pe_call (ok_is_tuple_of T) (hr.mono (by decide)) rfl T.m_is_tuple_of T.F_is_tuple_of.kp (b_is_tuple_of T) .nil pass0 (pa_cons (pv 0) (pa_cons pe_int pa_nil (star1 rfl)) (star1 rfl)) (by decide) (star1 rfl) (starAll rfl)))) (pss_one (ps_ret pe_bl)) pss_nil)
  (pss_cons (ps_asg (pv 0) (pg_tup rfl (pgs_cons (pg_name (i := 1) sc_has_group_form.nd rfl (Or.inl rfl)) (pgs_cons (pg_name (i := 2) sc_has_group_form.nd rfl (Or.inl rfl)) (pgs_cons (pg_name (i := 3) sc_has_group_form.nd rfl (Or.inl rfl)) pgs_nil)))))
  (pss_cons (ps_if (pt_not (pt_val (pe_call (ok_is_whole_from T) (hr.mono (by decide)) rfl T.m_is_whole_from T.F_is_whole_from.kp (b_is_whole_from T) .nil pass0 (pa_cons (pv 2) (pa_cons (pe_glob (v := .int 1) rfl T.c_LEAST ⟨_, rfl⟩) pa_nil (star1 rfl)) (star1 rfl)) (by decide) (star1 rfl) (starAll rfl)))) (pss_one (ps_ret pe_bl)) pss_nil)
  (pss_one (ps_ret (pe_and (pe_callB (isiK (K := K) rfl) rfl T.z_isinstance (by decide +kernel) (pa_cons (pv 3) (pa_cons (pe_bltn (v := .ty "tuple") rfl T.z_tuple (by decide +kernel) rfl) pa_nil (star1 rfl)) (star1 rfl)) (by decide) (by decide) (star1 rfl) (starAll rfl)) (pe_one (pe_cmpR op_gt (pe_callB (lenK (K := K) rfl) rfl T.z_len PySem.boot_len (pa_cons (pv 3) pa_nil (star1 rfl)) (by decide) (by decide) (star1 rfl) (starAll rfl)) pe_int (nomark _))))))))), ?_⟩
  refine q_when (et_not (et_B (ev_call (ea_cons (ev_var rfl) (ea_cons ev_c ea_nil)) fun H1 e Q' q' E => ⟨v, d, 3, rfl, dx_mono e hd, q'⟩))) (fun hb H1 e1 => ?_) (fun hb H1 e1 => ?_)
  · refine s_ret ev_c fun H2 e2 => ?_
    have e : formB d = false := by
      unfold formB
      split
      · simp [tupOf] at hb
      · rfl
    have q2 := q H2 (e1.trans e2)
    rw [e] at q2
    exact q2
  cases hd with
  | tup hs ha =>
    rename_i a xs ds
    have hl : ds.length = 3 := by simp [tupOf] at hb; omega
    obtain ⟨d1, d2, d3, rfl⟩ : ∃ d1 d2 d3, ds = [d1, d2, d3] := by
      match ds, hl with
      | [a, b, c], _ => exact ⟨a, b, c, rfl⟩
    obtain ⟨x, y, z, rfl, h1, h2, h3⟩ := dxa3 ha
    refine q_asgG ?_
    refine ⟨_, rfl, a, _, rfl, ex_t e1 hs, rfl, _, _, rfl, _, _, rfl, _, _, rfl, rfl, ?_⟩
    refine q_when (et_not (et_B (ev_call (ea_cons (ev_var rfl) (ea_cons ev_c ea_nil)) fun H2 e Q' q' E => ⟨y, d2, 1, rfl, dx_mono (e1.trans e) h2, q'⟩))) (fun hb2 H2 e2 => ?_) (fun hb2 H2 e2 => ?_)
    · refine s_ret ev_c fun H3 e3 => ?_
      have e : formB (.tuple [d1, d2, d3]) = false := by
        unfold formB
        split
        · rename_i he
          cases he
          simp only [wholeFrom, Bool.not_eq_true'] at hb2
          rw [hb2, Bool.false_and]
        · rfl
      have q2 := q H3 ((e1.trans e2).trans e3)
      rw [e] at q2
      exact q2
    · refine s_ret (ev_is (ev_andV (b := formB (.tuple [d1, d2, d3])) (ev_isX (ev_var rfl) (dx_mono (e1.trans e2) h3) (kt_tuple d3)) fun ht => ?_) ?_) fun H3 e3 => q H3 ((e1.trans e2).trans e3)
      · cases h3 with
        | tup hs3 ha3 =>
          rename_i a3 xs3 ds3
          refine ev_is (ev_I0 (ev_lenT (ev_var rfl) (ex_t (e1.trans e2) hs3)) ev_c) ?_
          rw [dxa_len ha3]
          cases h2 with
          | int i =>
            simp only [wholeFrom, Bool.not_eq_false'] at hb2
            simp only [formB]
            rw [hb2, Bool.true_and]
            cases ds3 with
            | nil => rfl
            | cons _ _ =>
              congr 1
              simp
          | _ => cases hb2
        | _ => cases ht
      · cases d3 <;> first | rfl | (cases d2 <;> simp [formB, isTupB])
  | _ => cases hb
theorem ok_member_fits (T : Tp w K mg) : FnOk P w K mg base CX0 4 T.f_member_fits T.d_member_fits ["thing", "seen"] (spMF K) := by
  refine T.F_member_fits.ok sc_member_fits (fun vs H Q E h => ?_) (fun cdv A outer s H vs Q E hr h => ?_)
  · obtain ⟨v, d, sd, ns, rfl, _⟩ := h
    rfl
  obtain ⟨v, d, sd, ns, rfl, hd, hsh, hsd, hnl, q⟩ := h
  refine ⟨_, (pss_cons (ps_set (i := 2) sc_member_fits.nd rfl (Or.inl rfl) (pv 0))
  (pss_cons (ps_if (pt_not (pt_val (pe_callB (isiK (K := K) rfl) rfl T.z_isinstance (by decide +kernel) (pa_cons (pv 0) (pa_cons (pe_bltn (v := .ty "str") rfl T.z_str (by decide +kernel) rfl) pa_nil (star1 rfl)) (star1 rfl)) (by decide) (by decide) (star1 rfl) (starAll rfl)))) (pss_cons (ps_if (pt_not (pt_val (pe_call (ok_has_group_form T) (hr.mono (by decide)) rfl T.m_has_group_form T.F_has_group_form.kp (b_has_group_form T) .nil pass0 (pa_cons (pv 0) pa_nil (star1 rfl)) (by decide) (star1 rfl) (starAll rfl)))) (pss_one (ps_ret pe_bl)) pss_nil)
  (pss_one (ps_set (i := 2) sc_member_fits.nd rfl (Or.inl rfl) (pe_ix (ixTK (K := K) rfl) (pv 0) pe_int (fun _ _ => rfl))))) pss_nil)
  (pss_cons (ps_if (PW.pt (pw_or (pt_not (pt_val (pe_call (ok_is_name T) (hr.mono (by decide)) rfl T.m_is_name T.F_is_name.kp (b_is_name T) .nil pass0 (pa_cons (pv 2) pa_nil (star1 rfl)) (by decide) (star1 rfl) (starAll rfl)))) (pw_or1 (pt_cmp (pc_din (hu_of hr) (pv 2) (pv 1)))))) (pss_one (ps_ret pe_bl)) pss_nil)
  (pss_cons (ps_dput (hu_of hr) (pv 1) (pv 2) pe_bl rfl)
  (pss_one (ps_ret pe_bl)))))), ?_⟩
  refine q_asg (v := v) (ev_var rfl) fun H0 e0 => ?_
  refine q_whenM (fun σ' H' => Ex H H' ∧ ∃ x dn, σ' = [some v, some (.ref sd), some x] ∧ Dx K H' x dn ∧ shorts dn ∧ tells d dn) (et_not (et_B (ev_isX (ev_var rfl) (dx_mono e0 hd) (kt_str d)))) ?_ ?_ ?_
  · intro σ' H1 hM
    obtain ⟨e1, x, dn, rfl, hx, hsx, ht⟩ := hM
    have t1 : EvT (tNot (tB (tCall (spIsName K) [] E0 (tCons (tVar 2) tNil)))) [some v, some (.ref sd), some x] H1 (!isNm dn) := et_not (et_B (ev_call (ea_cons (ev_var rfl) ea_nil) fun H2 e Q' q' E => ⟨x, dn, rfl, dx_mono e hx, by cases dn <;> first | trivial | exact hsx, q'⟩))
    cases hn : isNm dn with
    | false =>
      rw [hn] at t1
      refine q_when (b := true) (et_is (et_or (b := false) t1 fun h => by cases h) rfl) (fun _ H2 e2 => ?_) (fun h => by cases h)
      refine s_ret ev_c fun H3 e3 => q false ns H3 (KD.ex ((e1.trans e2).trans e3)) (((e1.trans e2).trans e3) _ _ hsd) (fun h => by cases h) fun _ => ?_
      unfold goesB
      cases dn with
      | str n =>
        obtain ⟨is, hh⟩ := ht.1 n rfl
        rw [hh]
        simp only [isNm] at hn
        simp only [hn, Bool.false_and]
      | _ => rw [ht.2 (fun n z => by cases z)]
    | true =>
      rw [hn] at t1
      cases hx with
      | str n =>
        have hnb : nameB n = true := hn
        obtain ⟨is, hh⟩ := ht.1 n rfl
        refine q_when (et_is (et_or t1 fun _ => et_B (b := decide (n ∈ ns)) ?_) (Bool.false_or _)) (fun hb H2 e2 => ?_) (fun hb H2 e2 => ?_)
        · intro H2 e Q' q'
          refine ⟨_, rfl, _, rfl, sd, _, rfl, DGet.k (k := Sum.inr n) ((e1.trans e) _ _ hsd), ?_⟩
          rw [val_ky]
          exact q' H2 (Ex.refl H2)
        · refine s_ret ev_c fun H3 e3 => q false ns H3 (KD.ex ((e1.trans e2).trans e3)) (((e1.trans e2).trans e3) _ _ hsd) (fun h => by cases h) fun _ => ?_
          unfold goesB
          rw [hh]
          have := of_decide_eq_true hb
          simp [this]
        · have hni : n ∉ ns := of_decide_eq_false hb
          refine q_dputP ?_
          refine ⟨_, rfl, _, rfl, sd, _, rfl, DPut.k (k := Sum.inr n) ((e1.trans e2) _ _ hsd) (sz_lt (by rw [List.length_map]; omega)), ?_⟩
          rw [put_ky hni]
          refine s_ret ev_c fun H3 e3 => q true (ns ++ [n]) H3 ?_ (e3 _ _ upd_same) (fun _ => ⟨n, is, hh, hnb, hni, rfl⟩) (fun h => by cases h)
          intro a o hne ha
          exact e3 _ _ (by rw [upd_ne hne]; exact (e1.trans e2) _ _ ha)
      | _ => cases hn
  · intro R hR hb H1 e1
    have e01 := e0.trans e1
    refine q_when (et_not (et_B (ev_call (ea_cons (ev_var rfl) ea_nil) fun H2 e Q' q' E => ⟨v, d, rfl, dx_mono (e01.trans e) hd, q'⟩))) (fun hf H2 e2 => ?_) (fun hf H2 e2 => ?_)
    · have hfb : formB d = false := by simpa using hf
      refine s_ret ev_c fun H3 e3 => q false ns H3 (KD.ex ((e01.trans e2).trans e3)) (((e01.trans e2).trans e3) _ _ hsd) (fun h => by cases h) fun _ => ?_
      unfold goesB
      have hh : hdM d = none := by
        unfold hdM
        split
        · cases hb
        · rename_i n b ms
          rw [if_neg]
          intro z
          simp only [formB, Bool.and_eq_false_iff, decide_eq_false_iff_not] at hfb
          rcases hfb with y | y
          · exact y z.1
          · exact z.2 (by simpa using y)
        · rfl
      rw [hh]
    · have hfb : formB d = true := by simpa using hf
      obtain ⟨dn, b, ms, rfl, hb1, hms0⟩ : ∃ dn b ms, d = .tuple [dn, .int b, .tuple ms] ∧ 1 ≤ b ∧ ms ≠ [] := by
        unfold formB at hfb
        split at hfb
        · rw [Bool.and_eq_true] at hfb
          refine ⟨_, _, _, rfl, of_decide_eq_true hfb.1, ?_⟩
          intro z
          rw [z] at hfb
          cases hfb.2
        · cases hfb
      cases hd with
      | tup hs ha =>
      rename_i a xs
      obtain ⟨x, y, z, rfl, h1, h2, h3⟩ := dxa3 ha
      simp only [shorts, shortss] at hsh
      refine s_asg (ev_ixT (v := x) (ev_var rfl) ev_c (ex_t (e01.trans e2) hs) rfl) fun H3 e3 => hR _ _ ⟨(e01.trans e2).trans e3, x, dn, rfl, dx_mono ((e01.trans e2).trans e3) h1, hsh.1, fun n hn => ?_, fun hn => ?_⟩
      · subst hn
        exact ⟨ms, by simp only [hdM]; rw [if_pos ⟨hb1, hms0⟩]⟩
      · cases dn with
        | str n => exact (hn n rfl).elim
        | _ => rfl
  · intro hb H1 e1
    have e01 := e0.trans e1
    refine ⟨e01, v, d, rfl, dx_mono e01 hd, hsh, fun n hn => ?_, fun hn => ?_⟩
    · subst hn
      exact ⟨[], rfl⟩
    · cases d with
      | str n => exact (hn n rfl).elim
      | _ => cases hb
theorem ok_is_plan (T : Tp w K mg) : FnOk P w K mg base CX0 5 T.f_is_plan T.d_is_plan ["thing"] (spIsPlan K) := by
  refine T.F_is_plan.ok sc_is_plan (fun vs H Q E h => ?_) (fun cdv A outer s H vs Q E hr h => ?_)
  · obtain ⟨v, d, rfl, _⟩ := h
    rfl
  obtain ⟨v, d, rfl, hd, hsh, hdp, hnd, q⟩ := h
  refine ⟨_, (pss_cons (ps_if (pt_val (pe_callB (isiK (K := K) rfl) rfl T.z_isinstance (by decide +kernel) (pa_cons (pv 0) (pa_cons (pe_bltn (v := .ty "str") rfl T.z_str (by decide +kernel) rfl) pa_nil (star1 rfl)) (star1 rfl)) (by decide) (by decide) (star1 rfl) (starAll rfl))) (pss_one (ps_ret pe_bl)) pss_nil)
  (pss_cons (ps_set (i := 1) sc_is_plan.nd rfl (Or.inl rfl) pe_dnewK)
  (pss_cons (ps_set (i := 2) sc_is_plan.nd rfl (Or.inl rfl) (pe_lst (pa_cons (pv 0) pa_nil (star1 rfl))))
  (pss_cons (ps_while PassesOwn.never (truK (K := K) rfl (pv 2) (by intro _; rfl)) (pss_cons (ps_set (i := 3) sc_is_plan.nd rfl (Or.inl rfl) (pe_bm0 PySem.F.plainAttrs_list PySem.F.slot_list_pop PySem.F.type_list_pop mt_pop (pv 2)))
  (pss_cons (ps_if (pt_not (pt_val (pe_call (ok_member_fits T) (hr.mono (by decide)) rfl T.m_member_fits T.F_member_fits.kp (b_member_fits T) .nil pass0 (pa_cons (pv 3) (pa_cons (pv 1) pa_nil (star1 rfl)) (star1 rfl)) (by decide) (star1 rfl) (starAll rfl)))) (pss_one (ps_ret pe_bl)) pss_nil)
  (pss_one (ps_if (pt_not (pt_val (pe_callB (isiK (K := K) rfl) rfl T.z_isinstance (by decide +kernel) (pa_cons (pv 3) (pa_cons (pe_bltn (v := .ty "str") rfl T.z_str (by decide +kernel) rfl) pa_nil (star1 rfl)) (star1 rfl)) (by decide) (by decide) (star1 rfl) (starAll rfl)))) (pss_one (ps_expr (pe_bm PySem.F.plainAttrs_list PySem.F.slot_list_extend PySem.F.type_list_extend (mt_extendT (K := K) rfl) (pv 2) (pa_cons (pe_ix (ixTK (K := K) rfl) (pv 3) pe_int (fun _ _ => rfl)) pa_nil (star1 rfl))))) pss_nil)))))
  (pss_one (ps_ret pe_bl)))))), ?_⟩
  refine q_when (et_B (ev_isX (ev_var rfl) hd (kt_str d))) (fun hb H1 e1 => ?_) (fun hb H1 e1 => ?_)
  · refine s_ret ev_c fun H2 e2 => ?_
    have e : planB d = false := by
      cases d with
      | str s => rfl
      | _ => cases hb
    have q2 := q H2 (e1.trans e2)
    rw [e] at q2
    exact q2
  have hns : ∀ s, d ≠ .str s := fun s z => by
    subst z
    cases hb
  refine q_asgP ?_
  intro sd hsd
  have eS : Ex H1 (upd H1 sd (.dK [])) := Ex.new hsd
  refine q_asgP ?_
  refine ⟨_, rfl, (by show 1 ≤ sizeLine; decide), fun wl hwl => ?_⟩
  generalize hH2 : upd (upd H1 sd (.dK [])) wl (.lst [v]) = H2
  have eW : Ex (upd H1 sd (.dK [])) H2 := by rw [← hH2]; exact Ex.new hwl
  have e2 : Ex H H2 := (e1.trans eS).trans eW
  have sdH : H sd = none := fresh_back e1 hsd
  have wlH : H wl = none := fresh_back (e1.trans eS) hwl
  have swl : sd ≠ wl := fun z => by
    subst z
    rw [upd_same] at hwl
    cases hwl
  have hsd2 : H2 sd = some (.dK (([] : List Str).map ky)) := eW _ _ upd_same
  have hwl2 : H2 wl = some (.lst [v]) := by rw [← hH2]; exact upd_same
  refine q_while (fun m σ' H' => Ex H H' ∧ ∃ (ns : List Str) (ws : List V) (ds : List PyData) (c : Option V), σ' = [some v, some (.ref sd), some (.ref wl), c] ∧ H' sd = some (.dK (ns.map ky)) ∧ H' wl = some (.lst ws) ∧ DxAll K H ws ds ∧ shortss ds ∧ pileB ds ns = planB d ∧ ns.length + nodess ds ≤ nodes d ∧ nodess ds = m) (nodes d) ?_ ?_
  · exact ⟨e2, [], [v], [d], none, rfl, hsd2, hwl2, .cons hd .nil, ⟨hsh, trivial⟩, (pile_plan hns).symm, by simp [nodess], by simp [nodess]⟩
  intro m σ' H3 hW
  obtain ⟨e3, ns, ws, ds, c, rfl, hsd3, hwl3, hda, hss, hpl, hsz, rfl⟩ := hW
  refine ⟨!ws.isEmpty, et_truL (ev_var rfl) hwl3, fun hb H4 e4 => ?_, fun hb H4 e4 => ?_⟩
  · have hne : ds ≠ [] := fun z => by
      subst z
      cases hda
      cases hb
    obtain ⟨us, x, es, dm, rfl, rfl, hua, hxm⟩ := dxa_snoc hda hne
    rw [nodess_app] at hsz
    simp only [nodess] at hsz
    obtain ⟨hs1, hs2⟩ := shortss_app.mp hss
    have hls := len_nodess es
    refine ⟨fun σ2 H' => Ex H H' ∧ ∃ (ns2 : List Str) (ws2 : List V) (ds2 : List PyData) (c : Option V), σ2 = [some v, some (.ref sd), some (.ref wl), c] ∧ H' sd = some (.dK (ns2.map ky)) ∧ H' wl = some (.lst ws2) ∧ DxAll K H ws2 ds2 ∧ shortss ds2 ∧ pileB ds2 ns2 = planB d ∧ ns2.length + nodess ds2 ≤ nodes d ∧ nodess ds2 < nodess (es ++ [dm]), fun σ2 H' hN => ?_, ?_⟩
    · obtain ⟨a1, ns2, ws2, ds2, c, a2, a3, a4, a5, a6, a7, a8, a9⟩ := hN
      exact ⟨nodess ds2, a9, a1, ns2, ws2, ds2, c, a2, a3, a4, a5, a6, a7, a8, rfl⟩
    refine q_asgP ?_
    refine ⟨.ref wl, rfl, Or.inl ⟨rfl, _, sq_of (e4 _ _ hwl3)⟩, wl, us ++ [x], x, rfl, rfl, e4 _ _ hwl3, by simp, ?_⟩
    generalize hH5 : upd H4 wl (.lst ((us ++ [x]).dropLast)) = H5
    have hwl5 : H5 wl = some (.lst us) := by rw [← hH5, upd_same, List.dropLast_concat]
    have e5 : Ex H H5 := by rw [← hH5]; exact Ex.mut (e3.trans e4) wlH
    have hsd5 : H5 sd = some (.dK (ns.map ky)) := by rw [← hH5, upd_ne swl]; exact e4 _ _ hsd3
    have hdm := nodes_pos dm
    refine q_notB ?_
    refine ⟨_, rfl, _, rfl, x, dm, sd, ns, rfl, dx_mono e5 hxm, hs2.1, hsd5, by omega, fun b2 ms H6 kd6 hsd6 ht hf => ⟨b2, rfl, ?_⟩⟩
    have e6 : Ex H H6 := fun a o ha => kd6 a o (fun z => by rw [z, sdH] at ha; cases ha) (e5 _ _ ha)
    have hwl6 : H6 wl = some (.lst us) := kd6 _ _ (Ne.symm swl) hwl5
    cases b2 with
    | false =>
      refine iteT ?_
      refine s_ret ev_c fun H7 e7 => ?_
      have q2 := q H7 (e6.trans e7)
      rw [← hpl, pile_stop (hf rfl)] at q2
      exact q2
    | true =>
      refine iteF ?_
      obtain ⟨n, is, hh, hnb, hni, rfl⟩ := ht rfl
      rw [pile_step hh hnb hni] at hpl
      have hmn := hdM_nodes hh
      refine s_when (et_not (et_B (ev_isX (ev_var rfl) (dx_mono e6 hxm) (kt_str dm)))) (fun hb2 H7 e7 => ?_) (fun hb2 H7 e7 => ?_)
      · obtain ⟨b, rfl⟩ : ∃ b, dm = .tuple [.str n, .int b, .tuple is] := by
          unfold hdM at hh
          split at hh
          · cases hb2
          · split at hh
            · cases hh
              exact ⟨_, rfl⟩
            · cases hh
          · cases hh
        cases hxm with
        | tup hs ha =>
        rename_i a xs
        obtain ⟨x1, y1, z1, rfl, h1, h2, h3⟩ := dxa3 ha
        cases h3 with
        | tup hs3 ha3 =>
        rename_i ma mxs
        have hml := dxa_len ha3
        have hli := len_nodess is
        have hul := dxa_len hua
        refine s_dropP ?_
        refine ⟨.ref wl, rfl, Or.inl ⟨rfl, _, sq_of (e7 _ _ hwl6)⟩, _, rfl, a, _, 2, .ref ma, rfl, rfl, ex_t (e6.trans e7) hs, rfl, wl, ma, us, mxs, rfl, rfl, e7 _ _ hwl6, ex_t (e6.trans e7) hs3, ?_, ?_⟩
        · exact Nat.le_of_lt (sz_lt (by omega))
        refine ⟨Ex.mut (e6.trans e7) wlH, ns ++ [n], us ++ mxs, es ++ is, _, rfl, ?_, upd_same, dxa_app ha3 hua, shortss_app.mpr ⟨hs1, hdM_shorts hh hs2.1⟩, hpl, ?_, ?_⟩
        · rw [upd_ne swl]; exact e7 _ _ hsd6
        · rw [nodess_app, List.length_append, List.length_singleton]; omega
        · rw [nodess_app, nodess_app]; simp only [nodess]; omega
      · have hi : is = [] := by
          cases dm with
          | str s => cases hh; rfl
          | _ => cases hb2
        subst hi
        rw [List.append_nil] at hpl
        refine ⟨e6.trans e7, ns ++ [n], us, es, _, rfl, e7 _ _ hsd6, e7 _ _ hwl6, hua, hs1, hpl, ?_, ?_⟩
        · rw [List.length_append, List.length_singleton]; omega
        · rw [nodess_app]; simp only [nodess]; omega
  · have hz : ds = [] := by
      cases hda with
      | nil => rfl
      | cons _ _ => cases hb
    subst hz
    refine s_ret ev_c fun H5 e5 => ?_
    have q2 := q H5 ((e3.trans e4).trans e5)
    rw [← hpl, pile_nil] at q2
    exact q2
end
/-! ### the program's rows of a plan -/
def spAF (K : PySem.W.Frag) (d : Nat) : Sp := fun vs H Q _ => ∃ (v : V) (pa : Addr) (n : Str) (b : Int) (ms : List Tr) (p : List Str), vs = [v, .ref pa] ∧ TrV H v (.grp n b ms) ∧ H pa = some (.tup (p.map V.str)) ∧ (Tr.grp n b ms).deep ≤ d ∧ (Tr.grp n b ms).size ≤ 1000 ∧ p.length + d ≤ 1000 ∧
  ∀ r xs H', Ex H H' → H r = none → H' r = some (.lst xs) → RowsB H' xs ((Tr.grp n b ms).rows p) → Q (.ref r) H'
def spAll (K : PySem.W.Frag) : Sp := fun vs H Q _ => ∃ (v : V) (n : Str) (b : Int) (ms : List Tr), vs = [v] ∧ TrV H v (.grp n b ms) ∧ (Tr.grp n b ms).deep ≤ 12 ∧ (Tr.grp n b ms).size ≤ 1000 ∧
  ∀ r xs H', Ex H H' → H r = none → H' r = some (.lst xs) → RowsB H' xs ((Tr.grp n b ms).rows []) → Q (.ref r) H'
def spNames (K : PySem.W.Frag) (f : Tr → List Str) : Sp := fun vs H Q _ => ∃ (v : V) (n : Str) (b : Int) (ms : List Tr), vs = [v] ∧ TrV H v (.grp n b ms) ∧ (Tr.grp n b ms).deep ≤ 12 ∧ (Tr.grp n b ms).size ≤ 1000 ∧
  ∀ a H', Ex H H' → H' a = some (.tup ((f (.grp n b ms)).map V.str)) → Q (.ref a) H'
section
variable {P : Program} {w : World} {K : PySem.W.Frag} {mg : Str → Option Value} {base : Heap}
theorem af_none (T : Tp w K mg) : FnOk P w K mg base CX0 0 T.f_all_from T.d_all_from ["group", "around"] (spAF K 0) := by
  have no : ∀ vs H Q E, ¬ spAF K 0 vs H Q E := fun vs H Q E h => by
    obtain ⟨v, pa, n, b, ms, p, _, _, _, hd, _⟩ := h
    simp [Tr.deep] at hd
  exact ⟨fun vs H Q E h => (no vs H Q E h).elim, fun A outer s H args us vs Q E _ _ _ _ h => (no vs H Q E h).elim⟩
theorem af_more (T : Tp w K mg) {d : Nat} (ih : FnOk P w K mg base CX0 d T.f_all_from T.d_all_from ["group", "around"] (spAF K d)) : FnOk P w K mg base CX0 (d + 1) T.f_all_from T.d_all_from ["group", "around"] (spAF K (d + 1)) := by
  refine T.F_all_from.ok sc_all_from (fun vs H Q E h => ?_) (fun cdv A outer s H vs Q E hr h => ?_)
  · obtain ⟨v, pa, n, b, ms, p, rfl, _⟩ := h
    rfl
  obtain ⟨v, pa, n, b, ms, p, rfl, hv, hpa, hdeep, hsize, hpl, q⟩ := h
  cases hv with
  | grp h1 h2 h3 =>
  rename_i a m xs
  refine ⟨_, (pss_cons (ps_asg (pv 0) (pg_tup rfl (pgs_cons (pg_name (i := 2) sc_all_from.nd rfl (Or.inl rfl)) (pgs_cons (pg_name (i := 3) sc_all_from.nd rfl (Or.inl rfl)) (pgs_cons (pg_name (i := 4) sc_all_from.nd rfl (Or.inl rfl)) pgs_nil)))))
  (pss_cons (ps_set (i := 5) sc_all_from.nd rfl (Or.inl rfl) (pe_lst (pa_cons (pe_tup (pa_cons (pv 2) (pa_cons (pv 3) (pa_cons (pv 1) pa_nil (star1 rfl)) (star1 rfl)) (star1 rfl))) pa_nil (star1 rfl))))
  (pss_cons (ps_set (i := 6) sc_all_from.nd rfl (Or.inl rfl) (pe_tup (pa_cons (pv 2) (StX.pa_star (pv 1) pa_nil) (star1 rfl))))
  (pss_cons (ps_for PassesOwn.never rfl (pi_tup (pv 4)) (pg_name (i := 7) sc_all_from.nd rfl (Or.inl rfl)) (pss_one (ps_if (pt_val (pe_callB (isiK (K := K) rfl) rfl T.z_isinstance (by decide +kernel) (pa_cons (pv 7) (pa_cons (pe_bltn (v := .ty "str") rfl T.z_str (by decide +kernel) rfl) pa_nil (star1 rfl)) (star1 rfl)) (by decide) (by decide) (star1 rfl) (starAll rfl))) (pss_one (ps_expr (pe_bm PySem.F.plainAttrs_list PySem.F.slot_list_append PySem.F.type_list_append mt_append (pv 5) (pa_cons (pe_tup (pa_cons (pv 7) (pa_cons pe_non (pa_cons (pv 6) pa_nil (star1 rfl)) (star1 rfl)) (star1 rfl))) pa_nil (star1 rfl))))) (pss_one (ps_expr (pe_bm PySem.F.plainAttrs_list PySem.F.slot_list_extend PySem.F.type_list_extend mt_extend (pv 5) (pa_cons (pe_call ih hr rfl T.m_all_from T.F_all_from.kp (b_all_from T) .nil pass0 (pa_cons (pv 7) (pa_cons (pv 6) pa_nil (star1 rfl)) (star1 rfl)) (by decide) (star1 rfl) (starAll rfl)) pa_nil (star1 rfl))))))))
  (pss_one (ps_ret (pv 5))))))), ?_⟩
  -- name, bound, members = group
  refine q_asgG ?_
  refine ⟨_, rfl, a, _, rfl, st_of h1, rfl, _, _, rfl, _, _, rfl, _, _, rfl, rfl, ?_⟩
  -- rows = [(name, bound, around)]
  refine q_asgP ?_
  refine ⟨_, rfl, _, rfl, _, rfl, (by show 3 ≤ sizeLine; decide), fun t1 ht1 => ⟨(by show 1 ≤ sizeLine; decide), fun r hr1 => ?_⟩⟩
  generalize hH1 : upd (upd H t1 (.tup [.str n, .int b, .ref pa])) r (.lst [.ref t1]) = H1
  have e1 : Ex H H1 := by rw [← hH1]; exact (Ex.new ht1).trans (Ex.new hr1)
  have rH : H r = none := fresh_back (Ex.new ht1) hr1
  have hr2 : H1 r = some (.lst [.ref t1]) := by rw [← hH1]; exact upd_same
  have row1 : RowB H1 (.ref t1) (n, some b, p) := ⟨t1, pa, rfl, by rw [← hH1]; exact (Ex.new hr1) _ _ upd_same, e1 _ _ hpa⟩
  -- inside = (name, *around)
  refine q_asgP ?_
  refine ⟨_, rfl, _, rfl, pa, p.map V.str, rfl, Or.inl (st_of (e1 _ _ hpa)), sz_of (by simp; omega), fun ia hia => ?_⟩
  generalize hH2 : upd H1 ia (.tup (V.str n :: (p.map V.str ++ []))) = H2
  have e2 : Ex H1 H2 := by rw [← hH2]; exact Ex.new hia
  have hin : H2 ia = some (.tup ((n :: p).map V.str)) := by
    rw [← hH2, upd_same, List.append_nil]
    rfl
  have e12 := e1.trans e2
  have hdp : deeps ms ≤ d := by simp only [Tr.deep] at hdeep; omega
  have hsz : sizes ms ≤ 1000 := by simp only [Tr.size] at hsize; omega
  -- for member in members
  refine q_forT (K := K) (a := m) (xs := xs) (ev_var rfl) (st_of (e12 _ _ h2)) (fun i σ' H' => Ex H H' ∧ H' ia = some (.tup ((n :: p).map V.str)) ∧ ∃ ys c, σ' = [some (.ref a), some (.ref pa), some (.str n), some (.int b), some (.ref m), some (.ref r), some (.ref ia), c] ∧ H' r = some (.lst ys) ∧ RowsB H' ys ((n, some b, p) :: rowss (ms.take i) (n :: p))) ?_ ?_ ?_ ?_
  · intro H3 e3
    refine ⟨e12.trans e3, e3 _ _ hin, [.ref t1], none, rfl, e3 _ _ (e2 _ _ hr2), ?_⟩
    simp only [List.take_zero, rowss]
    exact RowsB.one (row1.tk (TK.ex (e2.trans e3)))
  · intro i σ' H' _ hP
    exact st_of (hP.1 _ _ h2)
  · intro i x σ' H' hx hP
    obtain ⟨e3, hin3, ys, c, rfl, hr3, hrows⟩ := hP
    obtain ⟨t, ht, tv⟩ := trvs_get h3 hx
    have tv3 := trv_tk (TK.ex e3) t x tv
    have hyl : ys.length ≤ 1001 := by
      have := hrows.len
      simp only [List.length_cons, rowss_len] at this
      have := sizes_take ms i
      omega
    have hstep : (n, some b, p) :: rowss (ms.take (i + 1)) (n :: p) = ((n, some b, p) :: rowss (ms.take i) (n :: p)) ++ t.rows (n :: p) := by
      rw [rowss_take ms i t (n :: p) ht]
      rfl
    refine s_if (et_B (ev_isHand (ev_var rfl) tv3)) (fun hb H4 e4 => ?_) (fun hb H4 e4 => ?_)
    · cases tv3 with
      | hand nm =>
        refine ⟨.ref r, rfl, Or.inl ⟨rfl, ys, sq_of (e4 _ _ hr3)⟩, _, rfl, _, rfl, (by show 3 ≤ sizeLine; decide), fun t2 ht2 => ?_⟩
        refine ⟨r, ys, _, rfl, rfl, (Ex.new ht2) _ _ (e4 _ _ hr3), sz_lt (by omega), ?_⟩
        generalize hH5 : upd H4 t2 (.tup [.str nm, .non, .ref ia]) = H5
        have e5 : Ex H4 H5 := by rw [← hH5]; exact Ex.new ht2
        have hr5 : H5 r = some (.lst ys) := e5 _ _ (e4 _ _ hr3)
        have k5 : TK H5 (upd H5 r (.lst (ys ++ [.ref t2]))) := TK.lst hr5
        refine ⟨Ex.mut ((e3.trans e4).trans e5) rH, k5 _ _ (e5 _ _ (e4 _ _ hin3)), ys ++ [.ref t2], _, rfl, upd_same, ?_⟩
        rw [hstep]
        refine RowsB.tk k5 ((hrows.tk (TK.ex (e4.trans e5))).app (RowsB.one ⟨t2, ia, rfl, by rw [← hH5]; exact upd_same, e5 _ _ (e4 _ _ hin3)⟩))
      | grp _ _ _ => cases hb
    · cases tv3 with
      | hand nm => cases hb
      | grp g1 g2 g3 =>
        rename_i a' m' n' b' xs' ms'
        refine ⟨.ref r, rfl, Or.inl ⟨rfl, ys, sq_of (e4 _ _ hr3)⟩, _, rfl, _, rfl, .ref a', ia, n', b', ms', n :: p, rfl, trv_tk (TK.ex e4) _ _ (.grp g1 g2 g3), e4 _ _ hin3, ?_, ?_, ?_, fun b2 zs H5 e5 hb2 hb5 hrw => ?_⟩
        · have := deeps_mem ht
          omega
        · have := sizes_mem ht
          omega
        · simp only [List.length_cons]
          omega
        have hr5 : H5 r = some (.lst ys) := e5 _ _ (e4 _ _ hr3)
        have hzl := hrw.len
        rw [rows_len] at hzl
        have := sizes_mem ht
        refine ⟨r, b2, ys, zs, rfl, rfl, hr5, hb5, sz_of (by omega), ?_⟩
        have k5 : TK H5 (upd H5 r (.lst (ys ++ zs))) := TK.lst hr5
        refine ⟨Ex.mut ((e3.trans e4).trans e5) rH, k5 _ _ (e5 _ _ (e4 _ _ hin3)), ys ++ zs, _, rfl, upd_same, ?_⟩
        rw [hstep]
        exact RowsB.tk k5 ((hrows.tk (TK.ex (e4.trans e5))).app hrw)
  · intro σ' H' hP
    obtain ⟨e3, hin3, ys, c, rfl, hr3, hrows⟩ := hP
    rw [trvs_len h3, List.take_length] at hrows
    refine s_ret (v := .ref r) (ev_var rfl) fun H4 e4 => q r ys H4 (e3.trans e4) rH (e4 _ _ hr3) ?_
    simp only [Tr.rows]
    exact hrows.tk (TK.ex e4)
theorem af_all (T : Tp w K mg) : ∀ d, FnOk P w K mg base CX0 d T.f_all_from T.d_all_from ["group", "around"] (spAF K d)
  | 0 => af_none T
  | d + 1 => af_more T (af_all T d)
theorem ok_all_from (T : Tp w K mg) : FnOk P w K mg base CX0 12 T.f_all_from T.d_all_from ["group", "around"] (spAF K 12) := af_all T 12
theorem ok_all_in (T : Tp w K mg) : FnOk P w K mg base CX0 13 T.f_all_in T.d_all_in ["plan"] (spAll K) := by
  refine T.F_all_in.ok sc_all_in (fun vs H Q E h => ?_) (fun cdv A outer s H vs Q E hr h => ?_)
  · obtain ⟨v, n, b, ms, rfl, _⟩ := h
    rfl
  obtain ⟨v, n, b, ms, rfl, hv, hd, hs, q⟩ := h
  refine ⟨_, (pss_one (ps_ret (pe_call (ok_all_from T) (hr.mono (by decide)) rfl T.m_all_from T.F_all_from.kp (b_all_from T) .nil pass0 (pa_cons (pv 0) (pa_cons (pe_tup pa_nil) pa_nil (star1 rfl)) (star1 rfl)) (by decide) (star1 rfl) (starAll rfl)))), ?_⟩
  refine s_retP ?_
  refine ⟨_, rfl, (by show 0 ≤ sizeLine; decide), fun t ht => ⟨v, t, n, b, ms, [], rfl, trv_tk (TK.new ht) _ _ hv, upd_same, hd, hs, by decide, fun r xs H' e hr' h1 h2 => ?_⟩⟩
  exact q r xs H' ((Ex.new ht).trans e) (fresh_back (Ex.new ht) hr') h1 h2
end
section
variable {P : Program} {w : World} {K : PySem.W.Frag} {mg : Str → Option Value} {base : Heap}
theorem ok_hands_of (T : Tp w K mg) : FnOk P w K mg base CX0 14 T.f_hands_of T.d_hands_of ["plan"] (spNames K handsOf) := by
  refine T.F_hands_of.ok sc_hands_of (fun vs H Q E h => ?_) (fun cdv A outer s H vs Q E hr h => ?_)
  · obtain ⟨v, n, b, ms, rfl, _⟩ := h
    rfl
  obtain ⟨v, n, b, ms, rfl, hv, hdp, hsz, q⟩ := h
  refine ⟨_, (pss_one (ps_ret (pe_callTy call_tuple_of rfl T.z_tuple (by decide +kernel) (pa_cons (pe_lc (own := [("name", 1), ("bound", 2), ("path", 3)]) (g := gTup K 3 (gCons (gName 1) (gCons (gName 2) (gCons (gName 3) gNil)))) rfl sc_hands_of.nd (pi_list (pe_call (ok_all_in T) (hr.mono (by decide)) rfl T.m_all_in T.F_all_in.kp (b_all_in T) .nil pass0 (pa_cons (pv 0) pa_nil (star1 rfl)) (by decide) (star1 rfl) (starAll rfl))) (blkOk_by (N := N_hands_of) (sc := defScope s_hands_of) (by decide +kernel)) (fun _ _ _ _ _ => (pg_tup rfl (pgs_cons (pg_name (i := 1) sc_hands_of.nd rfl (Or.inl rfl)) (pgs_cons (pg_name (i := 2) sc_hands_of.nd rfl (Or.inl rfl)) (pgs_cons (pg_name (i := 3) sc_hands_of.nd rfl (Or.inl rfl)) pgs_nil))))) (fun _ _ _ _ _ => (pts_one (pt_cmp (pc_isN (pv 2))))) (fun _ _ _ _ _ => (pv 1))) pa_nil (star1 rfl)) (by decide) (by decide) (star1 rfl) (starAll rfl)))), ?_⟩
  refine s_retP ?_
  refine ⟨_, rfl, v, n, b, ms, rfl, hv, hdp, hsz, fun r xs H1 e1 hr1 h1 rows => ⟨r, rfl, ⟨xs, sq_of h1⟩, fun D hD => ?_⟩⟩
  generalize hrs : (Tr.grp n b ms).rows [] = rs at rows
  have hlen : rs.length ≤ 1000 := by rw [← hrs, rows_len]; exact hsz
  have hxl := rows.len
  refine lc_list (K := K) (a := r) (xs := xs) (fun i H' => Ex H1 H' ∧ H' D = some (.lst (((rs.take i).filter fun r => !r.2.1.isSome).map fun r => V.str r.1))) ⟨Ex.new hD, upd_same⟩ (fun i H' _ hP => sq_of (hP.1 _ _ h1)) ?_ ?_
  · intro i x H' hx hP
    obtain ⟨e2, hacc⟩ := hP
    obtain ⟨rw', hrw, a, pa, rfl, ha, hpa⟩ := rows.get hx
    obtain ⟨nm, g, p⟩ := rw'
    refine ⟨a, _, rfl, st_of (e2 _ _ ha), rfl, _, _, rfl, _, _, rfl, _, _, rfl, rfl, rfl, _, rfl, _, rfl, ?_⟩
    have hl2 : (((rs.take i).filter fun r => !r.2.1.isSome).map fun r => V.str r.1).length ≤ 1000 := by
      rw [List.length_map]
      exact Nat.le_trans (List.length_filter_le _ _) (by rw [List.length_take]; omega)
    cases g with
    | none =>
      refine iteT ?_
      refine ⟨_, rfl, _, hacc, sz_lt (by omega), Ex.mut e2 hD, ?_⟩
      rw [upd_same, filter_take hrw]
      simp
    | some bd =>
      refine iteF ?_
      refine ⟨e2, ?_⟩
      rw [hacc, filter_take hrw]
      simp
  · intro H' hP
    obtain ⟨e2, hacc⟩ := hP
    rw [hxl, List.take_length] at hacc
    refine ⟨D, _, rfl, Or.inl ⟨sq_of hacc, fun t ht => ?_⟩⟩
    refine q t _ ((e1.trans e2).trans (Ex.new ht)) ?_
    rw [upd_same]
    rw [hands_rows, hrs, List.map_map]
    rfl
end
/-! ### what the program takes for a book -/
def pairB : PyData → Bool
  | .tuple [.str _, p] => progFits p
  | _ => false
def pairName : PyData → Str
  | .tuple (.str z :: _) => z
  | _ => ""
def bookB (ys : List Str) : PyData → Bool
  | .tuple ds => ds.all pairB && decide (ds.map pairName = ys)
  | _ => false
theorem rows_small {d : PyData} (h : nodes d ≤ 20000) : rowsSmall d := by
  cases d with
  | tuple ds =>
    simp only [nodes] at h
    have hl := nodes_lenB ds
    refine ⟨by omega, fun e he es h2 => ?_⟩
    subst h2
    have h1 := nodes_memB he
    simp only [nodes] at h1
    have := nodes_lenB es
    omega
  | _ => trivial
theorem asc_lay {z : Str} (h : asc z) : PyData.strOk z = true := by
  unfold PyData.strOk
  rw [Array.all_eq_true']
  intro c hc
  have := h c (by simpa using hc)
  simp
  omega
theorem shapedL {xs : List Str} (h : ∀ n ∈ xs, asc n) : SeqAt.shaped (.list (xs.map PyData.str)) = true := by
  have a : ∀ {xs : List Str}, (∀ n ∈ xs, asc n) → PyData.canLayAll0 (xs.map PyData.str) = true ∧ PyData.depthAll (xs.map PyData.str) = 0 := by
    intro xs
    induction xs with
    | nil => intro _; simp [PyData.canLayAll0, PyData.depthAll]
    | cons n p ih =>
      intro h
      have i := ih (fun m hm => h m (List.mem_cons_of_mem _ hm))
      simp [PyData.canLayAll0, PyData.canLay0, PyData.depthAll, PyData.depth, asc_lay (h n (List.mem_cons_self ..)), i.1, i.2]
  obtain ⟨b, c⟩ := a h
  have d : PyData.canLay0 (.list (xs.map PyData.str)) = true := by
    simp only [PyData.canLay0]
    exact b
  have e : PyData.depth (.list (xs.map PyData.str)) ≤ 64 := by
    simp only [PyData.depth]
    omega
  unfold SeqAt.shaped
  rw [d, decide_eq_true e]
  rfl
def spPair (K : PySem.W.Frag) : Sp := fun vs H Q _ => ∃ v d, vs = [v] ∧ Dx K H v d ∧ nodes d ≤ 20000 ∧ ∀ H', Ex H H' → Q (.bl (pairB d)) H'
def spBook (K : PySem.W.Frag) : Sp := fun vs H Q _ => ∃ (v u : V) (n : Str) (b : Int) (ms : List Tr) (d : PyData) (B : Nat), vs = [v, u] ∧ TrV H v (.grp n b ms) ∧ (Tr.grp n b ms).deep ≤ 12 ∧ (Tr.grp n b ms).size < 64 ∧ (∀ x ∈ (Tr.grp n b ms).nms, nameOk x) ∧ Dx K H u d ∧ nodes d ≤ 20000 ∧ okD B d ∧
  ∀ ys H', ys.Perm (handsOf (.grp n b ms)) → PyProof.Rows.sortedS ys = true → Ex H H' → Q (.bl (bookB ys d)) H'
section
variable {P : Program} {w : World} {K : PySem.W.Frag} {mg : Str → Option Value} {base : Heap}
theorem ok_pair_fits (T : Tp w K mg) : FnOk P w K mg base CX0 7 T.f_pair_fits T.d_pair_fits ["pair"] (spPair K) := by
  refine T.F_pair_fits.ok sc_pair_fits (fun vs H Q E h => ?_) (fun cdv A outer s H vs Q E hr h => ?_)
  · obtain ⟨v, d, rfl, _⟩ := h
    rfl
  obtain ⟨v, d, rfl, hd, hz, q⟩ := h
  refine ⟨_, (pss_one (ps_ret (pe_and (pe_call (ok_is_tuple_of T) (hr.mono (by decide)) rfl T.m_is_tuple_of T.F_is_tuple_of.kp (b_is_tuple_of T) .nil pass0 (pa_cons (pv 0) (pa_cons pe_int pa_nil (star1 rfl)) (star1 rfl)) (by decide) (star1 rfl) (starAll rfl)) (pe_and (pe_callB (isiK (K := K) rfl) rfl T.z_isinstance (by decide +kernel) (pa_cons (pe_ix (ixTK (K := K) rfl) (pv 0) pe_int (fun _ _ => rfl)) (pa_cons (pe_bltn (v := .ty "str") rfl T.z_str (by decide +kernel) rfl) pa_nil (star1 rfl)) (star1 rfl)) (by decide) (by decide) (star1 rfl) (starAll rfl)) (pe_one (pe_call (ok_is_program T) (hr.mono (by decide)) rfl T.m_is_program T.F_is_program.kp (b_is_program T) .nil pass0 (pa_cons (pe_ix (ixTK (K := K) rfl) (pv 0) pe_int (fun _ _ => rfl)) pa_nil (star1 rfl)) (by decide) (star1 rfl) (starAll rfl))))))), ?_⟩
  refine s_ret (ev_is (ev_andV (a := tupOf d 2) (b := pairB d) (ev_call (ea_cons (ev_var rfl) (ea_cons ev_c ea_nil)) fun H1 e1 Q' q' E' => ⟨v, d, 2, rfl, dx_mono e1 hd, q'⟩) fun ht => ?_) ?_) q
  · cases hd with
    | tup hs ha =>
      rename_i a xs ds
      have hl := dxa_len ha
      simp only [tupOf, decide_eq_true_eq] at ht
      match ds, ha, hz, ht with
      | [x, y], ha, hz, _ =>
        cases ha with
        | cons h1 t =>
          cases t with
          | cons h2 t =>
            cases t
            rename_i v1 v2
            refine ev_is (ev_andV (a := isStrB x) (b := progFits y) (ev_isX (ev_ixT (ev_var rfl) ev_c hs rfl) h1 (kt_str x)) fun hx => ?_) ?_
            · simp only [nodes, nodess] at hz
              exact ev_call (vs := [v2]) (ea_cons (ev_ixT (ev_var rfl) ev_c hs rfl) ea_nil) fun H1 e1 Q' q' E' => ⟨v2, y, rfl, dx_mono e1 h2, rows_small (by omega), q'⟩
            · cases x <;> simp [pairB, isStrB]
      | [], _, _, h => simp at h
      | [_], _, _, h => simp at h
      | _ :: _ :: _ :: _, _, _, h => simp at h; omega
    | _ => cases ht
  · cases hp : pairB d with
    | false => simp
    | true =>
      have : tupOf d 2 = true := by
        unfold pairB at hp
        split at hp
        · rfl
        · cases hp
      rw [this]
      rfl
theorem ok_is_book (T : Tp w K mg) : FnOk P w K mg base CX0 15 T.f_is_book T.d_is_book ["plan", "thing"] (spBook K) := by
  refine T.F_is_book.ok sc_is_book (fun vs H Q E h => ?_) (fun cdv A outer s H vs Q E hr h => ?_)
  · obtain ⟨v, u, n, b, ms, d, B, rfl, _⟩ := h
    rfl
  obtain ⟨v, u, n, b, ms, d, B, rfl, tv, tdp, tsz, tnm, hd, hz, hok, q⟩ := h
  obtain ⟨ys0, hy0⟩ : ∃ ys : List Str, ys.Perm (handsOf (.grp n b ms)) ∧ PyProof.Rows.sortedS ys = true := sort_ex _
  refine ⟨_, (pss_cons (ps_if (pt_not (pt_val (pe_callB (isiK (K := K) rfl) rfl T.z_isinstance (by decide +kernel) (pa_cons (pv 1) (pa_cons (pe_bltn (v := .ty "tuple") rfl T.z_tuple (by decide +kernel) rfl) pa_nil (star1 rfl)) (star1 rfl)) (by decide) (by decide) (star1 rfl) (starAll rfl)))) (pss_one (ps_ret pe_bl)) pss_nil)
  (pss_cons (ps_if (pt_not (pt_val (pe_callB (allK (K := K) rfl rfl) rfl T.z_all (by decide +kernel) (pa_cons (pe_lc (own := [("pair", 4)]) (g := gName 4) (tt := tYes) rfl sc_is_book.nd (pi_tup (pv 1)) (blkOk_by (N := N_is_book) (sc := defScope s_is_book) (by decide +kernel)) (fun _ _ _ _ _ => (pg_name (i := 4) sc_is_book.nd rfl (Or.inl rfl))) (fun _ _ _ _ _ => pts_nil) (fun _ _ _ _ _ => (pe_call (ok_pair_fits T) (hr.mono (by decide)) rfl T.m_pair_fits T.F_pair_fits.kp (b_pair_fits T) .nil pass0 (pa_cons (pv 4) pa_nil (star1 rfl)) (by decide) (star1 rfl) (starAll rfl)))) pa_nil (star1 rfl)) (by decide) (by decide) (star1 rfl) (starAll rfl)))) (pss_one (ps_ret pe_bl)) pss_nil)
  (pss_one (ps_ret (pe_cmpR (eqDK (K := K) rfl (hu_e64 hr)) (pe_lc (own := [("name", 2), ("program", 3)]) (g := gTup K 2 (gCons (gName 2) (gCons (gName 3) gNil))) (tt := tYes) rfl sc_is_book.nd (pi_tup (pv 1)) (blkOk_by (N := N_is_book) (sc := defScope s_is_book) (by decide +kernel)) (fun _ _ _ _ _ => (pg_tup rfl (pgs_cons (pg_name (i := 2) sc_is_book.nd rfl (Or.inl rfl)) (pgs_cons (pg_name (i := 3) sc_is_book.nd rfl (Or.inl rfl)) pgs_nil)))) (fun _ _ _ _ _ => pts_nil) (fun _ _ _ _ _ => (pv 2))) (pe_callB (sortTK (K := K) rfl) rfl T.z_sorted (by decide +kernel) (pa_cons (pe_call (ok_hands_of T) (hr.mono (by decide)) rfl T.m_hands_of T.F_hands_of.kp (b_hands_of T) .nil pass0 (pa_cons (pv 0) pa_nil (star1 rfl)) (by decide) (star1 rfl) (starAll rfl)) pa_nil (star1 rfl)) (by decide) (by decide) (star1 rfl) (starAll rfl)) (nomark _)))))), ?_⟩
  refine q_when (et_not (et_B (ev_isX (ev_var rfl) hd (kt_tuple d)))) (fun hb H1 e1 => ?_) (fun hb H1 e1 => ?_)
  · refine s_ret ev_c fun H2 e2 => ?_
    have e : bookB ys0 d = false := by
      cases d <;> first | rfl | cases hb
    have q2 := q ys0 H2 hy0.1 hy0.2 (e1.trans e2)
    rw [e] at q2
    exact q2
  cases hd with
  | tup hs ha =>
  rename_i a xs ds
  have hl := dxa_len ha
  have hzl := nodes_lenB ds
  simp only [nodes] at hz
  have fits : Ev (tCB (rAll K) (tCons (tLc (iTup K (tVar 1)) (gName 2) tYes (tCall (spPair K) [] E0 (tCons (tVar 2) tNil)) [2]) tNil)) (start N_is_book [v, .ref a]) H1 (.bl (ds.all pairB)) := by
    refine ev_is (ev_allN (bs := (List.range xs.length).map fun i => pairB (ds.getD i .none)) ?_) ?_
    · have c := el_lcT (K := K) (σ := start N_is_book [v, .ref a]) (H := H1) (tl := tVar 1) (tt := tYes) (te := tCall (spPair K) [] E0 (tCons (tVar 2) tNil)) (j := 2) (vs := [2]) (fun _ => true) (fun i => .bl (pairB (ds.getD i .none))) (ev_var rfl) (ex_t e1 hs) (by omega) (fun x => rfl) (fun i x H2 e2 hi => et_yes) (fun i x H2 e2 hi _ => ?_)
      · rw [given_all] at c
        rw [List.map_map]
        exact c
      · obtain ⟨d, h1, h2⟩ := dxa_get ha hi
        have e : ds.getD i .none = d := by rw [List.getD_eq_getElem?_getD, h1]; rfl
        rw [e]
        have := nodes_memB (List.mem_of_getElem? h1)
        exact ev_call (ea_cons (ev_var rfl) ea_nil) fun H3 e3 Q' q' E' => ⟨x, d, rfl, dx_mono ((e1.trans e2).trans e3) h2, by omega, q'⟩
    · congr 1
      rw [hl, List.all_map]
      rw [Bool.eq_iff_iff, List.all_eq_true, List.all_eq_true]
      constructor
      · intro h x hx
        obtain ⟨i, hi, e⟩ := List.getElem_of_mem hx
        have := h i (List.mem_range.mpr hi)
        have e2 : ds.getD i .none = x := by rw [List.getD_eq_getElem?_getD, List.getElem?_eq_getElem hi, e]; rfl
        simp only [Function.comp, id] at this; rw [e2] at this; exact this
      · intro h i hi
        have hi2 := List.mem_range.mp hi
        have e2 : ds.getD i .none = ds[i] := by rw [List.getD_eq_getElem?_getD, List.getElem?_eq_getElem hi2]; rfl
        simp only [Function.comp, id, e2]
        exact h _ (List.getElem_mem hi2)
  refine q_when (et_not (et_B fits)) (fun hb2 H2 e2 => ?_) (fun hb2 H2 e2 => ?_)
  · refine s_ret ev_c fun H3 e3 => ?_
    have e : bookB ys0 (.tuple ds) = false := by
      simp only [bookB]
      rw [Bool.not_eq_true'] at hb2
      rw [hb2]
      rfl
    have q2 := q ys0 H3 hy0.1 hy0.2 ((e1.trans e2).trans e3)
    rw [e] at q2
    exact q2
  have all : ds.all pairB = true := by
    cases h : ds.all pairB with
    | true => rfl
    | false => rw [h] at hb2; cases hb2
  have e12 := e1.trans e2
  have pair : ∀ {i : Nat} {x : V}, xs[i]? = some x → ∃ (c : Addr) (z : Str) (y : V) (p : PyData), x = .ref c ∧ ds[i]? = some (.tuple [.str z, p]) ∧ SqT K H c [.str z, y] := by
    intro i x hx
    obtain ⟨d, h1, h2⟩ := dxa_get ha hx
    have hp := List.all_eq_true.mp all d (List.mem_of_getElem? h1)
    unfold pairB at hp
    split at hp
    · rename_i z p
      cases h2 with
      | tup k1 k2 =>
        cases k2 with
        | cons k3 t =>
          cases k3
          cases t with
          | cons k4 t =>
            cases t
            exact ⟨_, z, _, p, rfl, h1, k1⟩
    · cases hp
  simp only [okD] at hok
  have nasc : ∀ x ∈ ds.map pairName, asc x := by
    intro x hx
    obtain ⟨d, hd, rfl⟩ := List.mem_map.mp hx
    have hp := List.all_eq_true.mp all d hd
    have ok := oks_memB hok d hd
    unfold pairB at hp
    split at hp
    · simp only [okD, okDs] at ok
      exact ok.1
    · cases hp
  refine s_retP ?_
  refine ⟨_, rfl, a, rfl, ⟨xs, ex_t e12 hs⟩, fun D hD => ?_⟩
  refine lc_tup (K := K) (a := a) (xs := xs) (fun i H' => Ex H2 H' ∧ H' D = some (.lst (((ds.take i).map pairName).map V.str))) ⟨Ex.new hD, by rw [upd_same]; simp⟩ (fun i H' _ hP => ex_t (e12.trans hP.1) hs) ?_ ?_
  · intro i x H3 hx hP
    obtain ⟨e3, hacc⟩ := hP
    obtain ⟨c, z, y, p, rfl, hdi, hc⟩ := pair hx
    refine ⟨c, _, rfl, ex_t (e12.trans e3) hc, rfl, _, _, rfl, _, _, rfl, rfl, rfl, tYesQ ?_⟩
    have hi := (List.getElem?_eq_some_iff.mp hx).1
    refine ⟨_, rfl, _, hacc, sz_lt ?_, Ex.mut e3 hD, ?_⟩
    · rw [List.length_map, List.length_map, List.length_take]
      omega
    · rw [upd_same, List.take_succ, hdi]
      simp [pairName]
  · intro H3 hP
    obtain ⟨e3, hacc⟩ := hP
    rw [hl, List.take_length] at hacc
    have e13 := e12.trans e3
    refine ⟨_, rfl, v, n, b, ms, rfl, trv_tk (TK.ex e13) _ _ tv, tdp, by omega, fun hp H4 e4 hhp => ?_⟩
    have hl2 : (handsOf (.grp n b ms)).length < 64 := by
      have := names_len (.grp n b ms)
      rw [List.length_append] at this
      omega
    refine ⟨hp, handsOf (.grp n b ms), rfl, st_of hhp, hl2, fun ys sp hperm hsrt hsp => ?_⟩
    have e5 := e4.trans (Ex.new (o := .lst (ys.map V.str)) hsp)
    have yasc : ∀ x ∈ ys, asc x := fun x hx => name_asc (tnm x (hands_in _ x (hperm.mem_iff.mp hx)))
    refine ⟨.list ((ds.map pairName).map PyData.str), .list (ys.map PyData.str), .lst (sq_of (e5 _ _ hacc)) (dpa_strs _), .lst (sq_of upd_same) (dpa_strs _), shapedL nasc, shapedL yasc, ?_⟩
    have e6 : PyData.eqv (.list ((ds.map pairName).map PyData.str)) (.list (ys.map PyData.str)) = bookB ys (.tuple ds) := by
      simp only [PyData.eqv, bookB, eqv_strs, all, Bool.true_and]
    rw [e6]
    exact q ys _ hperm hsrt (e13.trans e5)
  | _ => cases hb
end
/-! ### the law's own drawing -/
def spHand (K : PySem.W.Frag) : Sp := fun vs H Q _ => ∃ (a : Addr) (ns : List Int), vs = [.ref a] ∧ SqL K H a (ns.map V.int) ∧ ns.length ≤ 63 ∧ ∀ h l H', Ex H H' → H h = none → H l = none → Hand H' h l → Q (.ref h) H'
def spPick : Sp := fun vs H Q _ => ∃ (h l : Addr) (m : Int), vs = [.ref h, .int m] ∧ Hand H h l ∧ 1 ≤ m ∧ m ≤ 1000000000 ∧ ∀ r H', 0 ≤ r → r < m → Hand H' h l → Kp h l H H' → Q (.int r) H'
section
variable {P : Program} {w : World} {K : PySem.W.Frag} {mg : Str → Option Value} {base : Heap}
theorem ok__law_hand (T : Tp w K mg) : FnOk P w K mg base CX0 1 T.f__law_hand T.d__law_hand ["_law_script"] (spHand K) := by
  refine T.F__law_hand.ok sc__law_hand (fun vs H Q E h => ?_) (fun cdv A outer s H vs Q E hr h => ?_)
  · obtain ⟨a, ns, rfl, _⟩ := h
    rfl
  obtain ⟨a, ns, rfl, hs, h63, q⟩ := h
  refine ⟨_, (pss_cons (ps_set (i := 1) sc__law_hand.nd rfl (Or.inl rfl) pe_int)
  (pss_cons (ps_for PassesOwn.never rfl (pi_list (pe_slice sl_list (pv 0) po_none (po_some pe_int))) (pg_name (i := 2) sc__law_hand.nd rfl (Or.inl rfl)) (pss_one (ps_set (i := 1) sc__law_hand.nd rfl (Or.inl rfl) (pe_op op_mod (pe_op op_add (pe_op op_add (pe_op op_mul (pv 1) pe_int) (pe_op op_mod (pv 2) pe_int)) pe_int) pe_int))))
  (pss_one (ps_ret (pe_lst (pa_cons (pe_lc (own := [("_law_cell", 2)]) (g := gName 2) rfl sc__law_hand.nd (pi_list (pe_slice sl_list (pv 0) po_none (po_some pe_int))) (blkOk_by (N := N__law_hand) (sc := defScope s__law_hand) (by decide +kernel)) (fun _ _ _ _ _ => (pg_name (i := 2) sc__law_hand.nd rfl (Or.inl rfl))) (fun _ _ _ _ _ => (pts_one (pt_cmpR op_ge (pv 2) (pe_op op_pow pe_int pe_int) (nomark _)))) (fun _ _ _ _ _ => (pv 2))) (pa_cons (pv 1) pa_nil (star1 rfl)) (star1 rfl))))))), ?_⟩
  obtain ⟨ms, hms, hlen⟩ := cut_ints ns 63
  refine q_asg (v := .int 23) ev_c fun H1 e1 => ?_
  refine q_forNLn (xs := ms.map V.int) (by rw [← hms]; exact el_cut (ev_var rfl) (ex_l e1 hs)) (fun p i σ' H' => Ex H1 H' ∧ H' p = some (.lst (ms.map V.int)) ∧ ∃ sd c, σ' = [some (.ref a), some (.int sd), c] ∧ 0 ≤ sd ∧ sd < 2305843009213693951) ?_ ?_ ?_ ?_
  · intro p H2 hp e2 h2
    exact ⟨e2, h2, 23, none, rfl, by decide, by decide⟩
  · intro p i σ' H' _ hv
    exact sq_of hv.2.1
  · intro p i x σ' H' hx hv
    obtain ⟨e2, hp, sd, c, rfl, h0, h1⟩ := hv
    obtain ⟨n, rfl⟩ : ∃ n, x = .int n := by
      rw [List.getElem?_map] at hx
      cases h : ms[i]? with
      | none => rw [h] at hx; cases hx
      | some n => rw [h] at hx; exact ⟨n, by cases hx; rfl⟩
    refine s_asg (v := .int ((sd * 6364136223846793 + n % 2305843009213693951 + 31) % 2305843009213693951)) (ev_I (by decide) (ev_I0 (ev_I0 (ev_I (Or.inl ⟨by omega, by omega⟩) (ev_var rfl) ev_c) (ev_I (by decide) (ev_var rfl) ev_c)) ev_c) ev_c) fun H3 e3 => ?_
    refine ⟨e2.trans e3, e3 _ _ hp, _, _, rfl, ?_, ?_⟩
    · exact Int.emod_nonneg _ (by decide)
    · exact Int.emod_lt_of_pos _ (by decide)
  · intro p σ' H' hv
    obtain ⟨e2, hp, sd, c, rfl, h0, h1⟩ := hv
    have c := el_lcNL (K := K) (σ := [some (.ref a), some (.int sd), c]) (H := H') (xs := ms.map V.int) (tl := tSl (rSlL K) (tVar 0) tNoPart (tPart (tC (.int 63)))) (t := tTest (tOp (rI0 fun i j => .bl (decide (j ≤ i))) (tVar 2) (tOp (rI CPow fun i j => .int (i ^ j.toNat)) (tC (.int 10)) (tC (.int 18))))) (te := tVar 2) (j := 2) (vs := [2])
      (fun i => decide ((10 : Int) ^ 18 ≤ ms.getD i 0)) (fun i => .int (ms.getD i 0)) (by rw [← hms]; exact el_cut (ev_var rfl) (ex_l (e1.trans e2) hs)) (by rw [List.length_map]; omega) (fun x => rfl) (fun i x H2 e2 hi => ?_) (fun i x H2 e2 hi _ => ?_)
    · obtain ⟨cs, hcs, hcl, hcp⟩ : ∃ cs : List Int, given (ms.map V.int).length (fun i => decide ((10 : Int) ^ 18 ≤ ms.getD i 0)) (fun i => V.int (ms.getD i 0)) = cs.map V.int ∧ cs.length ≤ ms.length ∧ ∀ c ∈ cs, 0 ≤ c := by
        refine ⟨((List.range (ms.map V.int).length).filter fun i => decide ((10 : Int) ^ 18 ≤ ms.getD i 0)).map fun i => ms.getD i 0, ?_, ?_, ?_⟩
        · unfold given
          rw [List.map_map]
          rfl
        · rw [List.length_map]
          exact Nat.le_trans (List.length_filter_le _ _) (by rw [List.length_range, List.length_map]; exact Nat.le_refl _)
        · intro c hc
          obtain ⟨i, hi, rfl⟩ := List.mem_map.mp hc
          have := of_decide_eq_true (List.mem_filter.mp hi).2
          omega
      rw [hcs] at c
      unfold tRet tLst tCons
      refine c H' (Ex.refl H') _ fun l H2 hl e3 hl2 => ?_
      refine ⟨.int sd, rfl, (by show 2 ≤ sizeLine; decide), fun h hh => ?_⟩
      have hx : Ex H H2 := (e1.trans e2).trans e3
      exact q h l _ (hx.trans (Ex.new hh)) (fresh_back hx hh) (fresh_back (e1.trans e2) hl) ⟨cs, sd, upd_same, by rw [upd_ne (ne_of_none hl2 hh)]; exact hl2, h0, h1, by omega, hcp⟩
    · obtain ⟨n, hn, rfl⟩ : ∃ n, ms[i]? = some n ∧ x = .int n := by
        rw [List.getElem?_map] at hi
        cases h : ms[i]? with
        | none => rw [h] at hi; cases hi
        | some n => rw [h] at hi; exact ⟨n, rfl, by cases hi; rfl⟩
      have e : ms.getD i 0 = n := by rw [List.getD_eq_getElem?_getD, hn]; rfl
      rw [e]
      exact et_test (ev_I0 (ev_var rfl) (ev_is (ev_I (C := CPow) ⟨by decide, by decide, by decide⟩ ev_c ev_c) rfl))
    · obtain ⟨n, hn, rfl⟩ : ∃ n, ms[i]? = some n ∧ x = .int n := by
        rw [List.getElem?_map] at hi
        cases h : ms[i]? with
        | none => rw [h] at hi; cases hi
        | some n => rw [h] at hi; exact ⟨n, rfl, by cases hi; rfl⟩
      have e : ms.getD i 0 = n := by rw [List.getD_eq_getElem?_getD, hn]; rfl
      rw [e]
      exact ev_var rfl
theorem ok__law_pick (T : Tp w K mg) : FnOk P w K mg base CX0 1 T.f__law_pick T.d__law_pick ["_law_hand_here", "_law_many"] spPick := by
  refine T.F__law_pick.ok sc__law_pick (fun vs H Q E h => ?_) (fun cdv A outer s H vs Q E hr h => ?_)
  · obtain ⟨h, l, m, rfl, _⟩ := h
    rfl
  obtain ⟨h, l, m, rfl, ⟨cs, sd, A0⟩, m1, m2, q⟩ := h
  refine ⟨_, (pss_cons (ps_while PassesOwn.never (PW.pt (pw_and (pt_cmpR (neDK (K := K) rfl hr.units) (pe_ix ix_list (pv 0) pe_int (fun _ _ => rfl)) (pe_lst pa_nil) (nomark _)) (pw_and1 (pt_cmpR op_eq (pe_ix ix_list (pe_ix ix_list (pv 0) pe_int (fun _ _ => rfl)) pe_int (fun _ _ => rfl)) pe_int (nomark _))))) (pss_one (ps_expr (pe_bm PySem.F.plainAttrs_list PySem.F.slot_list_pop PySem.F.type_list_pop mt_popAt (pe_ix ix_list (pv 0) pe_int (fun _ _ => rfl)) (pa_cons pe_int pa_nil (star1 rfl))))))
  (pss_cons (ps_if (pt_cmpR (neDK (K := K) rfl hr.units) (pe_ix ix_list (pv 0) pe_int (fun _ _ => rfl)) (pe_lst pa_nil) (nomark _)) (pss_cons (ps_set (i := 3) sc__law_pick.nd rfl (Or.inl rfl) (pe_op op_mod (pe_ix ix_list (pe_ix ix_list (pv 0) pe_int (fun _ _ => rfl)) pe_int (fun _ _ => rfl)) (pv 1)))
  (pss_cons (ps_asg (pe_op op_fdiv (pe_ix ix_list (pe_ix ix_list (pv 0) pe_int (fun _ _ => rfl)) pe_int (fun _ _ => rfl)) (pv 1)) (pg_sub (pe_ix ix_list (pv 0) pe_int (fun _ _ => rfl)) pe_int set_list))
  (pss_one (ps_ret (pv 3))))) pss_nil)
  (pss_cons (ps_asg (pe_op op_mod (pe_op op_add (pe_op op_mul (pe_ix ix_list (pv 0) pe_int (fun _ _ => rfl)) pe_int) pe_int) pe_int) (pg_sub (pv 0) pe_int set_list))
  (pss_cons (ps_set (i := 2) sc__law_pick.nd rfl (Or.inl rfl) (pe_op op_fdiv (pe_ix ix_list (pv 0) pe_int (fun _ _ => rfl)) pe_int))
  (pss_one (ps_ret (pe_op op_mod (pe_op op_fdiv (pe_op op_mod (pe_op op_mul (pv 2) (pe_op op_add (pe_op op_mod (pv 2) pe_int) pe_int)) pe_int) pe_int) (pv 1)))))))), ?_⟩
  have at0 : ∀ (σ' : L2.St) {H' : Hp} {cs : List Int} {sd : Int}, σ'[0]? = some (some (.ref h)) → HandAt H' h l cs sd → Ev (tOp (rIxL K) (tVar 0) (tC (.int 0))) σ' H' (.ref l) := fun σ' H' cs sd e A => ev_op (ev_var e) ev_c (rv_ixL (sq_of A.hh) rfl)
  refine q_while (fun n σ' H' => σ' = start N__law_pick [.ref h, .int m] ∧ Kp h l H H' ∧ ∃ cs sd, n = cs.length ∧ HandAt H' h l cs sd) cs.length ⟨rfl, Kp.refl h l H, cs, sd, rfl, A0⟩ ?_
  intro n σ' H' hw
  obtain ⟨rfl, kp, cs, sd, rfl, A⟩ := hw
  refine ⟨!cs.isEmpty && decide (cs.head? = some 0), et_and (et_test (ev_neNil (at0 _ rfl A) A.hl)) fun hne => ?_, fun hb H1 e1 => ?_, fun hb H1 e1 => ?_⟩
  · cases cs with
    | nil => cases hne
    | cons c r =>
      refine et_is (et_test (ev_eq (ev_op (at0 _ rfl A) ev_c (rv_ixL (v := .int c) (sq_of A.hl) (by simp [atI, ixN]))) ev_c rfl)) ?_
      simp
  · cases cs with
    | nil => cases hb
    | cons c r =>
      have A1 := A.ex e1
      refine ⟨fun σ2 H2 => σ2 = start N__law_pick [.ref h, .int m] ∧ Kp h l H H2 ∧ HandAt H2 h l r sd, fun σ2 H2 hn => ?_, ?_⟩
      · exact ⟨r.length, by simp, hn.1, hn.2.1, r, sd, rfl, hn.2.2⟩
      · refine at0 _ rfl A1 H1 (Ex.refl H1) _ fun H2 e2 => ⟨Or.inl ⟨rfl, _, sq_of (e2 _ _ A1.hl)⟩, l, (c :: r).map V.int, 0, 0, .int c, rfl, rfl, e2 _ _ A1.hl, by decide, by decide, ?_, rfl, rfl, ?_, ?_⟩
        · simp [seqIndex?]
        · exact Kp.put (kp.trans (Kp.ex (e1.trans e2))) (Or.inr rfl)
        · have A2 := A1.ex e2
          exact ⟨by rw [upd_ne A2.ne]; exact A2.hh, by rw [upd_same]; simp, A2.lo, A2.hi, by have := A2.few; simp at this; omega, fun c' hc => A2.pos c' (List.mem_cons_of_mem _ hc)⟩
  · have A1 := A.ex e1
    have k1 : Kp h l H H1 := kp.trans (Kp.ex e1)
    refine q_when (et_test (ev_neNil (at0 _ rfl A1) A1.hl)) (fun hne H2 e2 => ?_) (fun hne H2 e2 => ?_)
    · have A2 := A1.ex e2
      cases cs with
      | nil => cases hne
      | cons c r =>
        refine q_asg (v := .int (c % m)) (ev_I (by show (0 : Int) < m; omega) (ev_op (at0 _ rfl A2) ev_c (rv_ixL (v := .int c) (sq_of A2.hl) (by simp [atI, ixN]))) (ev_var rfl)) fun H3 e3 => ?_
        have A3 := A2.ex e3
        refine q_setL (j := 0) (v := .int (c / m)) A3.hl (ev_I (C := CDiv) ⟨by omega, by omega⟩ (ev_op (at0 _ rfl A3) ev_c (rv_ixL (v := .int c) (sq_of A3.hl) (by simp [atI, ixN]))) (ev_var rfl)) (at0 _ rfl A3) ev_c (by simp) fun H4 e4 => ?_
        have A4 := A3.ex e4
        refine s_ret (v := .int (c % m)) (ev_var rfl) fun H5 e5 => ?_
        have hc : 0 ≤ c := A4.pos c (List.mem_cons_self ..)
        have B : HandAt (upd H4 l (.lst (((c :: r).map V.int).set 0 (.int (c / m))))) h l (c / m :: r) sd := ⟨by rw [upd_ne A4.ne]; exact A4.hh, by rw [upd_same]; simp, A4.lo, A4.hi, by have := A4.few; simpa using this, fun c' hc' => by
          rcases List.mem_cons.mp hc' with rfl | h'
          · exact Int.ediv_nonneg hc (by omega)
          · exact A4.pos c' (List.mem_cons_of_mem _ h')⟩
        exact q _ H5 (Int.emod_nonneg _ (by omega)) (Int.emod_lt_of_pos _ (by omega)) ⟨_, _, B.ex e5⟩ ((Kp.put (k1.trans (Kp.ex ((e2.trans e3).trans e4))) (Or.inr rfl)).trans (Kp.ex e5))
    · have A2 := A1.ex e2
      have ev1 : ∀ (σ' : L2.St) {H' : Hp} {cs : List Int} {sd : Int}, σ'[0]? = some (some (.ref h)) → HandAt H' h l cs sd → Ev (tOp (rIxL K) (tVar 0) (tC (.int 1))) σ' H' (.int sd) := fun σ' H' cs sd e A => ev_op (ev_var e) ev_c (rv_ixL (sq_of A.hh) rfl)
      have hlo := A2.lo
      have hhi := A2.hi
      refine q_setL (j := 1) (v := .int ((sd * 3935559000370003 + 2691343689449507) % 2305843009213693951)) A2.hh (ev_I (by decide) (ev_I0 (ev_I (Or.inl ⟨by omega, by omega⟩) (ev1 _ rfl A2) ev_c) ev_c) ev_c) (ev_var rfl) ev_c (by simp) fun H3 e3 => ?_
      have A3 := A2.ex e3
      generalize hs : (sd * 3935559000370003 + 2691343689449507) % 2305843009213693951 = s2
      have s0 : 0 ≤ s2 := by rw [← hs]; exact Int.emod_nonneg _ (by decide)
      have s1 : s2 < 2305843009213693951 := by rw [← hs]; exact Int.emod_lt_of_pos _ (by decide)
      have B : HandAt (upd H3 h (.lst ([V.ref l, .int sd].set 1 (.int s2)))) h l cs s2 := ⟨upd_same, by rw [upd_ne (Ne.symm A3.ne)]; exact A3.hl, s0, s1, A3.few, A3.pos⟩
      refine q_asg (v := .int (s2 / 65537)) (ev_I (C := CDiv) (by constructor <;> decide) (ev1 _ rfl B) ev_c) fun H4 e4 => ?_
      have b1 : s2 / 65537 < 2 ^ 64 := by omega
      have b0 : 0 ≤ s2 / 65537 := by omega
      refine s_ret (ev_I (by show (0 : Int) < m; omega) (ev_I (C := CDiv) (by constructor <;> decide) (ev_I (by decide) (ev_I (C := CMul) (Or.inl ⟨by omega, by omega⟩) (ev_var rfl) (ev_I0 (ev_I (by decide) (ev_var rfl) ev_c) ev_c)) ev_c) ev_c) (ev_var rfl)) fun H5 e5 => ?_
      exact q _ H5 (Int.emod_nonneg _ (by omega)) (Int.emod_lt_of_pos _ (by omega)) ⟨_, _, B.ex (e4.trans e5)⟩ ((Kp.put (k1.trans (Kp.ex (e2.trans e3))) (Or.inl rfl)).trans (Kp.ex (e4.trans e5)))
end
def spOf : Sp := fun vs H Q _ => ∃ (h l : Addr), Hand H h l ∧ ((∃ (a : Addr) (xs : List V), vs = [.ref h, .ref a] ∧ H a = some (.lst xs) ∧ a ≠ h ∧ a ≠ l ∧ 1 ≤ xs.length ∧ xs.length ≤ 50000 ∧ ∀ v H', v ∈ xs → Hand H' h l → Kp h l H H' → Q v H') ∨
  (∃ z : Str, vs = [.ref h, .str z] ∧ 1 ≤ z.length ∧ z.length ≤ 1000 ∧ ∀ c H', c ∈ z.cps.toList → Hand H' h l → Kp h l H H' → Q (.str ⟨#[c]⟩) H'))
theorem of_list {h l a : Addr} {xs : List V} {H : Hp} {Q : VK} {E : XK} (A : Hand H h l) (ha : H a = some (.lst xs)) (n1 : a ≠ h) (n2 : a ≠ l) (l1 : 1 ≤ xs.length) (l2 : xs.length ≤ 50000) (q : ∀ v H', v ∈ xs → Hand H' h l → Kp h l H H' → Q v H') : spOf [.ref h, .ref a] H Q E := ⟨h, l, A, Or.inl ⟨a, xs, rfl, ha, n1, n2, l1, l2, q⟩⟩
theorem of_text {h l : Addr} {z : Str} {H : Hp} {Q : VK} {E : XK} (A : Hand H h l) (l1 : 1 ≤ z.length) (l2 : z.length ≤ 1000) (q : ∀ c H', c ∈ z.cps.toList → Hand H' h l → Kp h l H H' → Q (.str ⟨#[c]⟩) H') : spOf [.ref h, .str z] H Q E := ⟨h, l, A, Or.inr ⟨z, rfl, l1, l2, q⟩⟩
section
variable {P : Program} {w : World} {K : PySem.W.Frag} {mg : Str → Option Value} {base : Heap}
theorem ok__law_of (T : Tp w K mg) : FnOk P w K mg base CX0 2 T.f__law_of T.d__law_of ["_law_hand_here", "_law_some"] spOf := by
  refine T.F__law_of.ok sc__law_of (fun vs H Q E h => ?_) (fun cdv A outer s H vs Q E hr h => ?_)
  · obtain ⟨h, l, A, ⟨a, xs, rfl, _⟩ | ⟨z, rfl, _⟩⟩ := h
    · rfl
    · rfl
  refine ⟨_, (pss_one (ps_ret (pe_ix ix_seq (pv 1) (pe_call (ok__law_pick T) (hr.mono (by decide)) rfl T.m__law_pick T.F__law_pick.kp (b__law_pick T) .nil pass0 (pa_cons (pv 0) (pa_cons (pe_callB call_len rfl T.z_len PySem.boot_len (pa_cons (pv 1) pa_nil (star1 rfl)) (by decide) (by decide) (star1 rfl) (starAll rfl)) pa_nil (star1 rfl)) (star1 rfl)) (by decide) (star1 rfl) (starAll rfl)) (fun _ _ => rfl)))), ?_⟩
  obtain ⟨h, l, A0, ⟨a, xs, rfl, ha, n1, n2, l1, l2, q⟩ | ⟨z, rfl, l1, l2, q⟩⟩ := h
  · refine ⟨_, rfl, _, rfl, _, rfl, .ref a, xs.length, rfl, Or.inl ⟨xs, sq_of ha, rfl⟩, h, l, (xs.length : Int), rfl, A0, by omega, by omega, fun r H' r0 r1 A1 k1 => ?_⟩
    have hi : r.toNat < xs.length := by omega
    refine Or.inl ⟨a, xs, r, xs[r.toNat], rfl, rfl, sq_of (k1 a _ n1 n2 ha), ?_, q _ H' (List.getElem_mem hi) A1 k1⟩
    unfold atI ixN
    rw [if_pos r0, if_pos r1]
    simp [hi]
  · refine ⟨_, rfl, _, rfl, _, rfl, .str z, z.length, rfl, ⟨sz_of (by omega), rfl⟩, h, l, (z.length : Int), rfl, A0, by omega, by omega, fun r H' r0 r1 A1 k1 => ?_⟩
    have hz : z.cps.toList.length = z.length := by simp [Str.length]
    have hi : r.toNat < z.cps.toList.length := by omega
    refine Or.inr (Or.inr ⟨z, r, z.cps.toList[r.toNat], rfl, rfl, sz_of (by omega), ?_, q _ H' (List.getElem_mem hi) A1 k1⟩)
    unfold atI ixN
    rw [if_pos r0, if_pos (by omega)]
    simp [List.getElem?_eq_getElem hi]
end
/-! ### rows that are drawn: flat ones, that fit -/
def flat0 : PyData → Bool
  | .none => true
  | .bool _ => true
  | .str x => (x.cps.toList.all fun c => decide (c < 128)) && decide (x.length ≤ 10)
  | .int i => decide (-100000000 ≤ i) && decide (i ≤ 100000000)
  | _ => false
def mkV : PyData → V
  | .bool b => .bl b
  | .str x => .str x
  | .int i => .int i
  | _ => .non
def Drawn (H : Hp) (v : V) (k : Int) : Prop := ∃ a ds, v = .ref a ∧ H a = some (.tup (ds.map mkV)) ∧ ds.all flat0 = true ∧ rowFits (.tuple ds) k = true ∧ ds.length ≤ 3
theorem Drawn.kp {H H' : Hp} {h l : Addr} {v : V} {k : Int} (A : Hand H h l) (kp : Kp h l H H') (d : Drawn H v k) : Drawn H' v k := by
  obtain ⟨a, ds, rfl, ha, r⟩ := d
  exact ⟨a, ds, rfl, kp_tup A kp ha, r⟩
theorem Drawn.upd {H : Hp} {p : Addr} {o : HO} {v : V} {k : Int} (d : Drawn H v k) (hp : ∀ xs, H p ≠ some (.tup xs)) : Drawn (upd H p o) v k := by
  obtain ⟨a, ds, rfl, ha, r⟩ := d
  refine ⟨a, ds, rfl, ?_, r⟩
  rw [upd_ne (fun e => by subst e; exact hp _ ha)]
  exact ha
theorem rf_take (ds : List PyData) (k : Int) : rowFits (.tuple (.str "take" :: ds)) k = takeFits (.str "take" :: ds) := by
  unfold rowFits
  simp only [if_pos]
theorem rf_try (ds : List PyData) (k : Int) : rowFits (.tuple (.str "try" :: ds)) k = wordFits (.str "try" :: ds) := by
  unfold rowFits
  simp only [if_neg (show ¬ (("try" : Str) = "take") by decide +kernel), if_pos]
theorem rf_let (ds : List PyData) (k : Int) : rowFits (.tuple (.str "let" :: ds)) k = wordFits (.str "let" :: ds) := by
  unfold rowFits
  simp only [if_neg (show ¬ (("let" : Str) = "take") by decide +kernel), if_neg (show ¬ (("let" : Str) = "try") by decide +kernel), if_pos]
theorem rf_say (ds : List PyData) (k : Int) : rowFits (.tuple (.str "say" :: ds)) k = sayFits (.str "say" :: ds) := by
  unfold rowFits
  simp only [if_neg (show ¬ (("say" : Str) = "take") by decide +kernel), if_neg (show ¬ (("say" : Str) = "try") by decide +kernel), if_neg (show ¬ (("say" : Str) = "let") by decide +kernel), if_pos]
theorem rf_goto (ds : List PyData) (k : Int) : rowFits (.tuple (.str "goto" :: ds)) k = gotoFits (.str "goto" :: ds) k := by
  unfold rowFits
  simp only [if_neg (show ¬ (("goto" : Str) = "take") by decide +kernel), if_neg (show ¬ (("goto" : Str) = "try") by decide +kernel), if_neg (show ¬ (("goto" : Str) = "let") by decide +kernel), if_neg (show ¬ (("goto" : Str) = "say") by decide +kernel), if_pos]
theorem rf_if (ds : List PyData) (k : Int) : rowFits (.tuple (.str "if" :: ds)) k = ifFits (.str "if" :: ds) k := by
  unfold rowFits
  simp only [if_neg (show ¬ (("if" : Str) = "take") by decide +kernel), if_neg (show ¬ (("if" : Str) = "try") by decide +kernel), if_neg (show ¬ (("if" : Str) = "let") by decide +kernel), if_neg (show ¬ (("if" : Str) = "say") by decide +kernel), if_neg (show ¬ (("if" : Str) = "goto") by decide +kernel), if_pos]
theorem tYesP {σ : L2.St} {H : Hp} {A B : Hp → Prop} (h : A H) : tYes σ H fun b H3 => if b = true then A H3 else B H3 := by
  show if true = true then A H else B H
  rw [if_pos rfl]
  exact h
def spRow : Sp := fun vs H Q _ => ∃ (h l : Addr) (k : Int), vs = [.ref h, .int k] ∧ Hand H h l ∧ 1 ≤ k ∧ k ≤ 1000 ∧ ∀ v H', Drawn H' v k → Hand H' h l → Kp h l H H' → Q v H'
def spProgram : Sp := fun vs H Q _ => ∃ (h l : Addr) (k : Int), vs = [.ref h, .int k] ∧ Hand H h l ∧ 0 ≤ k ∧ k ≤ 100 ∧ ∀ a xs H', H' a = some (.tup xs) → (xs.length : Int) ≤ k → (∀ v ∈ xs, Drawn H' v xs.length) → Hand H' h l → Kp h l H H' → Q (.ref a) H'
section
variable {P : Program} {w : World} {K : PySem.W.Frag} {mg : Str → Option Value} {base : Heap}
theorem ok__law_row (T : Tp w K mg) : FnOk P w K mg base CX0 3 T.f__law_row T.d__law_row ["_law_hand_here", "_law_size"] spRow := by
  refine T.F__law_row.ok sc__law_row (fun vs H Q E h => ?_) (fun cdv A outer s H vs Q E hr h => ?_)
  · obtain ⟨h, l, k, rfl, _⟩ := h
    rfl
  obtain ⟨h, l, k, rfl, A0, k0, k1, q⟩ := h
  refine ⟨_, (pss_cons (ps_set (i := 2) sc__law_row.nd rfl (Or.inl rfl) (pe_call (ok__law_of T) (hr.mono (by decide)) rfl T.m__law_of T.F__law_of.kp (b__law_of T) .nil pass0 (pa_cons (pv 0) (pa_cons (pe_lst (pa_cons pe_str (pa_cons pe_str (pa_cons pe_str (pa_cons pe_str (pa_cons pe_str (pa_cons pe_str (pa_cons pe_str pa_nil (star1 rfl)) (star1 rfl)) (star1 rfl)) (star1 rfl)) (star1 rfl)) (star1 rfl)) (star1 rfl))) pa_nil (star1 rfl)) (star1 rfl)) (by decide) (star1 rfl) (starAll rfl)))
  (pss_cons (ps_if (pt_cmpR op_eq (pv 2) pe_str (nomark _)) (pss_one (ps_ret (pe_tup (pa_cons (pv 2) (pa_cons (pe_call (ok__law_of T) (hr.mono (by decide)) rfl T.m__law_of T.F__law_of.kp (b__law_of T) .nil pass0 (pa_cons (pv 0) (pa_cons (pe_lst (pa_cons pe_non (pa_cons pe_int (pa_cons pe_int (pa_cons pe_int (pa_cons (pe_call (ok__law_pick T) (hr.mono (by decide)) rfl T.m__law_pick T.F__law_pick.kp (b__law_pick T) .nil pass0 (pa_cons (pv 0) (pa_cons pe_int pa_nil (star1 rfl)) (star1 rfl)) (by decide) (star1 rfl) (starAll rfl)) (pa_cons pe_int pa_nil (star1 rfl)) (star1 rfl)) (star1 rfl)) (star1 rfl)) (star1 rfl)) (star1 rfl))) pa_nil (star1 rfl)) (star1 rfl)) (by decide) (star1 rfl) (starAll rfl)) pa_nil (star1 rfl)) (star1 rfl))))) pss_nil)
  (pss_cons (ps_if (pt_cmpR op_eq (pv 2) pe_str (nomark _)) (pss_one (ps_ret (pe_tup (pa_cons (pv 2) (pa_cons (pe_call (ok__law_of T) (hr.mono (by decide)) rfl T.m__law_of T.F__law_of.kp (b__law_of T) .nil pass0 (pa_cons (pv 0) (pa_cons (pe_lst (pa_cons pe_int (pa_cons pe_int (pa_cons (pe_call (ok__law_pick T) (hr.mono (by decide)) rfl T.m__law_pick T.F__law_pick.kp (b__law_pick T) .nil pass0 (pa_cons (pv 0) (pa_cons pe_int pa_nil (star1 rfl)) (star1 rfl)) (by decide) (star1 rfl) (starAll rfl)) pa_nil (star1 rfl)) (star1 rfl)) (star1 rfl))) pa_nil (star1 rfl)) (star1 rfl)) (by decide) (star1 rfl) (starAll rfl)) pa_nil (star1 rfl)) (star1 rfl))))) pss_nil)
  (pss_cons (ps_if (pt_cmpR op_eq (pv 2) pe_str (nomark _)) (pss_one (ps_ret (pe_tup (pa_cons (pv 2) (pa_cons (pe_call (ok__law_pick T) (hr.mono (by decide)) rfl T.m__law_pick T.F__law_pick.kp (b__law_pick T) .nil pass0 (pa_cons (pv 0) (pa_cons (pv 1) pa_nil (star1 rfl)) (star1 rfl)) (by decide) (star1 rfl) (starAll rfl)) pa_nil (star1 rfl)) (star1 rfl))))) pss_nil)
  (pss_cons (ps_if (pt_cmpR op_eq (pv 2) pe_str (nomark _)) (pss_one (ps_ret (pe_tup (pa_cons (pv 2) (pa_cons (pe_call (ok__law_of T) (hr.mono (by decide)) rfl T.m__law_of T.F__law_of.kp (b__law_of T) .nil pass0 (pa_cons (pv 0) (pa_cons (pe_lst (pa_cons pe_int (pa_cons pe_int (pa_cons (pe_un un_neg pe_int) (pa_cons pe_int (pa_cons (pe_un un_neg pe_int) (pa_cons pe_int pa_nil (star1 rfl)) (star1 rfl)) (star1 rfl)) (star1 rfl)) (star1 rfl)) (star1 rfl))) pa_nil (star1 rfl)) (star1 rfl)) (by decide) (star1 rfl) (starAll rfl)) (pa_cons (pe_call (ok__law_pick T) (hr.mono (by decide)) rfl T.m__law_pick T.F__law_pick.kp (b__law_pick T) .nil pass0 (pa_cons (pv 0) (pa_cons (pv 1) pa_nil (star1 rfl)) (star1 rfl)) (by decide) (star1 rfl) (starAll rfl)) pa_nil (star1 rfl)) (star1 rfl)) (star1 rfl))))) pss_nil)
  (pss_one (ps_ret (pe_tup (pa_cons (pv 2) pa_nil (star1 rfl)))))))))), ?_⟩
  refine q_asgP ?_
  refine ⟨_, rfl, (by show 7 ≤ sizeLine; decide), fun p hp => ?_⟩
  obtain ⟨n1, n2⟩ := A0.fresh hp
  refine of_list (E := E0) (A0.new hp) upd_same n1 n2 (by decide) (by decide) fun v H1 hv A1 kp1 => ?_
  have kp : Kp h l H H1 := (Kp.ex (Ex.new hp)).trans kp1
  have fin : ∀ (H2 : Hp) (t : Addr) (ds : List PyData), Hand H2 h l → Kp h l H H2 → H2 t = none → ds.all flat0 = true → rowFits (.tuple ds) k = true → ds.length ≤ 3 → Q (.ref t) (upd H2 t (.tup (ds.map mkV))) := fun H2 t ds A2 kp2 ht h1 h2 h3 =>
    q _ _ ⟨t, ds, rfl, upd_same, h1, h2, h3⟩ (A2.new ht) (kp2.trans (Kp.ex (Ex.new ht)))
  have hv' : v = .str "take" ∨ v = .str "try" ∨ v = .str "let" ∨ v = .str "say" ∨ v = .str "goto" ∨ v = .str "if" := by
    simp only [List.mem_cons, List.not_mem_nil, or_false] at hv
    rcases hv with h | h | h | h | h | h | h <;> simp [h]
  rcases hv' with rfl | rfl | rfl | rfl | rfl | rfl
  · refine q_when (b := true) (et_is (et_test (ev_eq (ev_var rfl) ev_c rfl)) (by decide +kernel)) (fun _ H2 e2 => ?_) (fun hb => by cases hb)
    have A2 := A1.ex e2
    refine ⟨_, rfl, _, rfl, _, rfl, h, l, 40, rfl, A2, by decide, by decide, fun r H3 r0 r1 A3 kp3 => ⟨(by show 6 ≤ sizeLine; decide), fun p2 hp2 => ?_⟩⟩
    obtain ⟨n3, n4⟩ := A3.fresh hp2
    refine of_list (E := E0) (A3.new hp2) upd_same n3 n4 (Nat.le_add_left 1 _) (by simp) fun v H4 hv A4 kp4 => ⟨(by show 2 ≤ sizeLine; decide), fun t ht => ?_⟩
    have kp5 : Kp h l H H4 := ((kp.trans (Kp.ex e2)).trans kp3).trans ((Kp.ex (Ex.new hp2)).trans kp4)
    obtain ⟨d, rfl, hd, hf⟩ : ∃ d, v = mkV d ∧ flat0 d = true ∧ takeFits [.str "take", d] = true := by
      simp only [List.mem_cons, List.not_mem_nil, or_false] at hv
      rcases hv with h | h | h | h | h | h
      · exact ⟨.none, h, rfl, rfl⟩
      · exact ⟨.int 0, h, by decide, by decide⟩
      · exact ⟨.int 1, h, by decide, by decide⟩
      · exact ⟨.int 2, h, by decide, by decide⟩
      · refine ⟨.int r, h, ?_, ?_⟩
        · simp only [flat0, Bool.and_eq_true, decide_eq_true_eq]; omega
        · simp only [takeFits, wholeFrom, decide_eq_true_eq]; exact r0
      · exact ⟨.int 99999999, h, by decide, by decide⟩
    refine fin H4 t [.str "take", d] A4 kp5 ht ?_ ?_ (by simp)
    · simp only [List.all_cons, List.all_nil, hd, Bool.and_true]
      decide +kernel
    · rw [rf_take]
      exact hf
  · refine q_when (b := false) (et_is (et_test (ev_eq (ev_var rfl) ev_c rfl)) (by decide +kernel)) (fun hb => by cases hb) (fun _ H2 e2 => ?_)
    refine q_when (b := false) (et_is (et_test (ev_eq (ev_var rfl) ev_c rfl)) (by decide +kernel)) (fun hb => by cases hb) (fun _ H3 e3 => ?_)
    refine q_when (b := false) (et_is (et_test (ev_eq (ev_var rfl) ev_c rfl)) (by decide +kernel)) (fun hb => by cases hb) (fun _ H4 e4 => ?_)
    refine q_when (b := false) (et_is (et_test (ev_eq (ev_var rfl) ev_c rfl)) (by decide +kernel)) (fun hb => by cases hb) (fun _ H5 e5 => ?_)
    have e := ((e2.trans e3).trans e4).trans e5
    exact ⟨_, rfl, (by show 1 ≤ sizeLine; decide), fun t ht => fin H5 t [.str "try"] (A1.ex e) (kp.trans (Kp.ex e)) ht (by decide +kernel) (by rw [rf_try]; decide) (by decide)⟩
  · refine q_when (b := false) (et_is (et_test (ev_eq (ev_var rfl) ev_c rfl)) (by decide +kernel)) (fun hb => by cases hb) (fun _ H2 e2 => ?_)
    refine q_when (b := false) (et_is (et_test (ev_eq (ev_var rfl) ev_c rfl)) (by decide +kernel)) (fun hb => by cases hb) (fun _ H3 e3 => ?_)
    refine q_when (b := false) (et_is (et_test (ev_eq (ev_var rfl) ev_c rfl)) (by decide +kernel)) (fun hb => by cases hb) (fun _ H4 e4 => ?_)
    refine q_when (b := false) (et_is (et_test (ev_eq (ev_var rfl) ev_c rfl)) (by decide +kernel)) (fun hb => by cases hb) (fun _ H5 e5 => ?_)
    have e := ((e2.trans e3).trans e4).trans e5
    exact ⟨_, rfl, (by show 1 ≤ sizeLine; decide), fun t ht => fin H5 t [.str "let"] (A1.ex e) (kp.trans (Kp.ex e)) ht (by decide +kernel) (by rw [rf_let]; decide) (by decide)⟩
  · refine q_when (b := false) (et_is (et_test (ev_eq (ev_var rfl) ev_c rfl)) (by decide +kernel)) (fun hb => by cases hb) (fun _ H1 e1 => ?_)
    refine q_when (b := true) (et_is (et_test (ev_eq (ev_var rfl) ev_c rfl)) (by decide +kernel)) (fun _ H2 e2 => ?_) (fun hb => by cases hb)
    have A2 := A1.ex (e1.trans e2)
    refine ⟨_, rfl, _, rfl, _, rfl, h, l, 100, rfl, A2, by decide, by decide, fun r H3 r0 r1 A3 kp3 => ⟨(by show 3 ≤ sizeLine; decide), fun p2 hp2 => ?_⟩⟩
    obtain ⟨n3, n4⟩ := A3.fresh hp2
    refine of_list (E := E0) (A3.new hp2) upd_same n3 n4 (Nat.le_add_left 1 _) (by simp) fun v H4 hv A4 kp4 => ⟨(by show 2 ≤ sizeLine; decide), fun t ht => ?_⟩
    have kp5 : Kp h l H H4 := ((kp.trans (Kp.ex (e1.trans e2))).trans kp3).trans ((Kp.ex (Ex.new hp2)).trans kp4)
    obtain ⟨d, rfl, hd, hf⟩ : ∃ d, v = mkV d ∧ flat0 d = true ∧ sayFits [.str "say", d] = true := by
      simp only [List.mem_cons, List.not_mem_nil, or_false] at hv
      rcases hv with h | h | h
      · exact ⟨.int 0, h, by decide, by decide⟩
      · exact ⟨.int 99, h, by decide, by decide⟩
      · refine ⟨.int r, h, ?_, ?_⟩
        · simp only [flat0, Bool.and_eq_true, decide_eq_true_eq]; omega
        · simp only [sayFits, Bool.and_eq_true, decide_eq_true_eq]; omega
    refine fin H4 t [.str "say", d] A4 kp5 ht ?_ ?_ (by simp)
    · simp only [List.all_cons, List.all_nil, hd, Bool.and_true]
      decide +kernel
    · rw [rf_say]
      exact hf
  · refine q_when (b := false) (et_is (et_test (ev_eq (ev_var rfl) ev_c rfl)) (by decide +kernel)) (fun hb => by cases hb) (fun _ H1 e1 => ?_)
    refine q_when (b := false) (et_is (et_test (ev_eq (ev_var rfl) ev_c rfl)) (by decide +kernel)) (fun hb => by cases hb) (fun _ H2 e2 => ?_)
    refine q_when (b := true) (et_is (et_test (ev_eq (ev_var rfl) ev_c rfl)) (by decide +kernel)) (fun _ H3 e3 => ?_) (fun hb => by cases hb)
    have A2 := A1.ex ((e1.trans e2).trans e3)
    refine ⟨_, rfl, _, rfl, _, rfl, h, l, k, rfl, A2, k0, by omega, fun r H4 r0 r1 A4 kp4 => ⟨(by show 2 ≤ sizeLine; decide), fun t ht => ?_⟩⟩
    refine fin H4 t [.str "goto", .int r] A4 ((kp.trans (Kp.ex ((e1.trans e2).trans e3))).trans kp4) ht ?_ ?_ (by simp)
    · simp only [List.all_cons, List.all_nil, flat0, Bool.and_true, Bool.and_eq_true, decide_eq_true_eq]
      exact ⟨by decide +kernel, by omega, by omega⟩
    · rw [rf_goto]
      simp only [gotoFits, rowNum, Bool.and_eq_true, decide_eq_true_eq]
      exact ⟨r0, r1⟩
  · refine q_when (b := false) (et_is (et_test (ev_eq (ev_var rfl) ev_c rfl)) (by decide +kernel)) (fun hb => by cases hb) (fun _ H1 e1 => ?_)
    refine q_when (b := false) (et_is (et_test (ev_eq (ev_var rfl) ev_c rfl)) (by decide +kernel)) (fun hb => by cases hb) (fun _ H2 e2 => ?_)
    refine q_when (b := false) (et_is (et_test (ev_eq (ev_var rfl) ev_c rfl)) (by decide +kernel)) (fun hb => by cases hb) (fun _ H3 e3 => ?_)
    refine q_when (b := true) (et_is (et_test (ev_eq (ev_var rfl) ev_c rfl)) (by decide +kernel)) (fun _ H4 e4 => ?_) (fun hb => by cases hb)
    have e := ((e1.trans e2).trans e3).trans e4
    have A2 := A1.ex e
    refine ⟨_, rfl, _, rfl, 1, rfl, 99999999, rfl, (by show 6 ≤ sizeLine; decide), fun p2 hp2 => ?_⟩
    obtain ⟨n3, n4⟩ := A2.fresh hp2
    refine of_list (E := E0) (A2.new hp2) upd_same n3 n4 (by decide) (by decide) fun v H5 hv A5 kp5 => ?_
    refine ⟨_, rfl, _, rfl, h, l, k, rfl, A5, k0, by omega, fun r H6 r0 r1 A6 kp6 => ⟨(by show 3 ≤ sizeLine; decide), fun t ht => ?_⟩⟩
    have kp7 : Kp h l H H6 := ((kp.trans (Kp.ex e)).trans ((Kp.ex (Ex.new hp2)).trans kp5)).trans kp6
    obtain ⟨m, rfl, hm⟩ : ∃ m : Int, v = .int m ∧ flat0 (.int m) = true := by
      simp only [List.mem_cons, List.not_mem_nil, or_false] at hv
      rcases hv with h | h | h | h | h | h
      · exact ⟨0, h, by decide⟩
      · exact ⟨1, h, by decide⟩
      · exact ⟨-1, h, by decide⟩
      · exact ⟨7, h, by decide⟩
      · exact ⟨-99999999, h, by decide⟩
      · exact ⟨99999999, h, by decide⟩
    refine fin H6 t [.str "if", .int m, .int r] A6 kp7 ht ?_ ?_ (by simp)
    · simp only [List.all_cons, List.all_nil, hm, Bool.and_true, Bool.true_and]
      simp only [flat0, Bool.and_true, Bool.and_eq_true, decide_eq_true_eq]
      exact ⟨by decide +kernel, by omega, by omega⟩
    · rw [rf_if]
      simp only [ifFits, isWhole, rowNum, Bool.true_and, Bool.and_eq_true, decide_eq_true_eq]
      exact ⟨r0, r1⟩
theorem ok__law_program (T : Tp w K mg) : FnOk P w K mg base CX0 4 T.f__law_program T.d__law_program ["_law_hand_here", "_law_upmost"] spProgram := by
  refine T.F__law_program.ok sc__law_program (fun vs H Q E h => ?_) (fun cdv A outer s H vs Q E hr h => ?_)
  · obtain ⟨h, l, k, rfl, _⟩ := h
    rfl
  obtain ⟨h, l, k, rfl, A0, k0, k1, q⟩ := h
  refine ⟨_, (pss_cons (ps_set (i := 2) sc__law_program.nd rfl (Or.inr rfl) (pe_call (ok__law_pick T) (hr.mono (by decide)) rfl T.m__law_pick T.F__law_pick.kp (b__law_pick T) .nil pass0 (pa_cons (pv 0) (pa_cons (pe_op op_add pe_int (pv 1)) pa_nil (star1 rfl)) (star1 rfl)) (by decide) (star1 rfl) (starAll rfl)))
  (pss_one (ps_ret (pe_callTy call_tuple_of rfl T.z_tuple (by decide +kernel) (pa_cons (pe_lc (own := [("_law_k", 3)]) (g := gName 3) (tt := tYes) rfl sc__law_program.nd (pi_range1 rfl T.z_range (pa_cons (pv 2) pa_nil (star1 rfl))) (blkOk_by (N := N__law_program) (sc := defScope s__law_program) (by decide +kernel)) (fun _ _ _ _ _ => (pg_name (i := 3) sc__law_program.nd rfl (Or.inl rfl))) (fun _ _ _ _ _ => pts_nil) (fun _ _ _ _ _ => (pe_call (ok__law_row T) (hr.mono (by decide)) rfl T.m__law_row T.F__law_row.kp (b__law_row T) .nil pass0 (pa_cons (pv 0) (pa_cons (pv 2) pa_nil (star1 rfl)) (star1 rfl)) (by decide) (star1 rfl) (starAll rfl)))) pa_nil (star1 rfl)) (by decide) (by decide) (star1 rfl) (starAll rfl))))), ?_⟩
  refine ⟨_, rfl, _, rfl, 1, k, rfl, rfl, h, l, 1 + k, rfl, A0, by omega, by omega, fun n H1 n0 n1 A1 kp1 => ?_⟩
  refine ⟨_, rfl, n, rfl, by omega, by omega, fun D hD => ?_⟩
  obtain ⟨d1, d2⟩ := A1.fresh hD
  refine lc_range (lo := 0) (n := n.toNat) (fun i H' => Hand H' h l ∧ Kp h l H H' ∧ ∃ acc, H' D = some (.lst acc) ∧ acc.length = i ∧ ∀ v ∈ acc, Drawn H' v n) ?_ ?_ ?_
  · exact ⟨A1.new hD, kp1.trans (Kp.ex (Ex.new hD)), [], upd_same, rfl, fun v hv => by cases hv⟩
  · intro i H2 hi hp
    obtain ⟨A2, kp2, acc, hacc, hlen, hdr⟩ := hp
    refine ⟨rfl, ?_⟩
    refine tYesP ?_
    refine ⟨_, rfl, _, rfl, h, l, n, rfl, A2, by omega, by omega, fun v H3 dv A3 kp3 => ?_⟩
    refine ⟨acc, kp3 D _ d1 d2 hacc, sz_lt (by omega), A3.upd d1 d2, ?_, acc ++ [v], upd_same, ?_, ?_⟩
    · intro a o m1 m2 ha
      have hne : a ≠ D := by
        intro e
        subst e
        have := kp1 _ _ m1 m2 ha
        rw [hD] at this
        cases this
      rw [upd_ne hne]
      exact kp3 a o m1 m2 (kp2 a o m1 m2 ha)
    · rw [List.length_append, hlen] <;> rfl
    · intro u hu
      have hD3 : ∀ xs, H3 D ≠ some (.tup xs) := fun xs e => by
        rw [kp3 D _ d1 d2 hacc] at e
        cases e
      rcases List.mem_append.mp hu with hu | hu
      · exact ((hdr u hu).kp A2 kp3).upd hD3
      · rw [List.mem_singleton.mp hu]
        exact dv.upd hD3
  · intro H2 hp
    obtain ⟨A2, kp2, acc, hacc, hlen, hdr⟩ := hp
    refine ⟨D, acc, rfl, Or.inl ⟨sq_of hacc, fun t ht => ?_⟩⟩
    have e : (acc.length : Int) = n := by omega
    refine q t acc _ upd_same (by omega) ?_ (A2.new ht) (kp2.trans (Kp.ex (Ex.new ht)))
    rw [e]
    exact fun v hv => (hdr v hv).upd (fun xs z => by rw [ht] at z; cases z)
end
/-! ### sixty names, all unlike -/
def spNm : Sp := fun vs H Q _ => ∃ (h l : Addr), vs = [.ref h] ∧ Hand H h l ∧ ∀ (f : Addr) (xs : List Str) (H' : Hp), Hand H' h l → Kp h l H H' → H f = none → f ≠ h → f ≠ l → H' f = some (.lst (xs.map V.str)) → xs.length = 60 → xs.Nodup → (∀ s ∈ xs, nameOk s) → Q (.ref f) H'
def alphabet : Str := "abcdefghijklmnopqrstuvwxyz"
theorem alpha_at : ∀ i : Fin 26, alphabet.cps.toList[i.val]? = some (97 + i.val) := by decide +kernel
def nmOf (first step : Int) (stem : List Nat) (k : Nat) : Str := ⟨(spotL ((first + step * (k : Int)) % 60).toNat stem).toArray⟩
theorem nm_inj {first step : Int} {stem : List Nat} (hs : step = 1 ∨ step = 7 ∨ step = 11 ∨ step = 13 ∨ step = 59) : ∀ i j, i < 60 → j < 60 → nmOf first step stem i = nmOf first step stem j → i = j := by
  intro i j hi hj h
  have h1 : spotL ((first + step * (i : Int)) % 60).toNat stem = spotL ((first + step * (j : Int)) % 60).toNat stem := by
    unfold nmOf at h
    simpa using h
  have h2 := spot_inj (by omega) (by omega) h1
  rcases hs with rfl | rfl | rfl | rfl | rfl <;> omega
theorem nm_ok {first step : Int} {stem : List Nat} (hs : ∀ c ∈ stem, 97 ≤ c ∧ c ≤ 122) (hl : stem.length ≤ 6) (k : Nat) : nameOk (nmOf first step stem k) := by
  have h := spot_len ((first + step * (k : Int)) % 60).toNat stem
  have e : (nmOf first step stem k).length = (spotL ((first + step * (k : Int)) % 60).toNat stem).length := by
    unfold nmOf Str.length
    simp
  refine ⟨by omega, by omega, ?_⟩
  unfold nmOf
  simpa using spot_letters (s := ((first + step * (k : Int)) % 60).toNat) hs
theorem joinOnes : ∀ cs : List Nat, TL.joinL [] (cs.map fun c => [c]) = cs
  | [] => rfl
  | [c] => rfl
  | c :: d :: r => by
    have := joinOnes (d :: r)
    simp only [List.map_cons, TL.joinL] at this ⊢
    rw [this]
    rfl
theorem join_signs (cs : List Nat) : (Txt.join "" (cs.map fun c => (⟨#[c]⟩ : Str))).cps.toList = cs := by
  have e : Txt.join "" (cs.map fun c => (⟨#[c]⟩ : Str)) = Str.join "" (cs.map fun c => (⟨#[c]⟩ : Str)) := StrLaws.glued_eq_join _ _
  rw [e]
  have h := TL.tl_join "" (cs.map fun c => (⟨#[c]⟩ : Str))
  have e2 : TL.tl ("" : Str) = [] := by decide +kernel
  rw [e2, List.map_map] at h
  have e3 : (TL.tl ∘ fun c => (⟨#[c]⟩ : Str)) = fun c => [c] := by funext c; rfl
  rw [e3, joinOnes] at h
  exact h
section
variable {K : PySem.W.Frag} {σ : L2.St} {H : Hp} {ta tb : TE}
abbrev rAddS : R2 := fun x y H Q => ∃ i j : Str, x = .str i ∧ y = .str j ∧ i.length + j.length ≤ sizeLine ∧ Q (.str (i ++ j)) H
theorem ev_addS {i j : Str} (ha : Ev ta σ H (.str i)) (hb : Ev tb σ H (.str j)) (hz : i.length + j.length ≤ 100000) : Ev (tOp rAddS ta tb) σ H (.str (i ++ j)) := ev_op ha hb fun H1 _ Q q => ⟨i, j, rfl, rfl, sz_of hz, q H1 (Ex.refl H1)⟩
end
section
variable {P : Program} {w : World} {K : PySem.W.Frag} {mg : Str → Option Value} {base : Heap}
theorem ok__law_names (T : Tp w K mg) : FnOk P w K mg base CX0 3 T.f__law_names T.d__law_names ["_law_hand_here"] spNm := by
  refine T.F__law_names.ok sc__law_names (fun vs H Q E h => ?_) (fun cdv A outer s H vs Q E hr h => ?_)
  · obtain ⟨h, l, rfl, _⟩ := h
    rfl
  obtain ⟨h, l, rfl, A0, q⟩ := h
  refine ⟨_, (pss_cons (ps_set (i := 1) sc__law_names.nd rfl (Or.inl rfl) (pe_join pe_str (pe_lc (own := [("_law_k", 5)]) (g := gName 5) (tt := tYes) rfl sc__law_names.nd (pi_range1 rfl T.z_range (pa_cons (pe_call (ok__law_pick T) (hr.mono (by decide)) rfl T.m__law_pick T.F__law_pick.kp (b__law_pick T) .nil pass0 (pa_cons (pv 0) (pa_cons pe_int pa_nil (star1 rfl)) (star1 rfl)) (by decide) (star1 rfl) (starAll rfl)) pa_nil (star1 rfl))) (blkOk_by (N := N__law_names) (sc := defScope s__law_names) (by decide +kernel)) (fun _ _ _ _ _ => (pg_name (i := 5) sc__law_names.nd rfl (Or.inl rfl))) (fun _ _ _ _ _ => pts_nil) (fun _ _ _ _ _ => (pe_call (ok__law_of T) (hr.mono (by decide)) rfl T.m__law_of T.F__law_of.kp (b__law_of T) .nil pass0 (pa_cons (pv 0) (pa_cons pe_str pa_nil (star1 rfl)) (star1 rfl)) (by decide) (star1 rfl) (starAll rfl))))))
  (pss_cons (ps_par rfl sc__law_names.nd (i := 2) (j := 3) rfl rfl (by decide) rfl rfl (pa_cons (pe_call (ok__law_pick T) (hr.mono (by decide)) rfl T.m__law_pick T.F__law_pick.kp (b__law_pick T) .nil pass0 (pa_cons (pv 0) (pa_cons pe_int pa_nil (star1 rfl)) (star1 rfl)) (by decide) (star1 rfl) (starAll rfl)) (pa_cons (pe_call (ok__law_of T) (hr.mono (by decide)) rfl T.m__law_of T.F__law_of.kp (b__law_of T) .nil pass0 (pa_cons (pv 0) (pa_cons (pe_lst (pa_cons pe_int (pa_cons pe_int (pa_cons pe_int (pa_cons pe_int (pa_cons pe_int pa_nil (star1 rfl)) (star1 rfl)) (star1 rfl)) (star1 rfl)) (star1 rfl))) pa_nil (star1 rfl)) (star1 rfl)) (by decide) (star1 rfl) (starAll rfl)) pa_nil (star1 rfl)) (star1 rfl)) (by rfl))
  (pss_cons (ps_set (i := 4) sc__law_names.nd rfl (Or.inl rfl) (pe_lst pa_nil))
  (pss_cons (ps_for PassesOwn.never rfl (pi_range1 rfl T.z_range (pa_cons pe_int pa_nil (star1 rfl))) (pg_name (i := 5) sc__law_names.nd rfl (Or.inl rfl)) (pss_cons (ps_set (i := 7) sc__law_names.nd rfl (Or.inl rfl) (pe_op op_mod (pe_op op_add (pv 2) (pe_op op_mul (pv 3) (pv 5))) pe_int))
  (pss_one (ps_expr (pe_bm PySem.F.plainAttrs_list PySem.F.slot_list_append PySem.F.type_list_append mt_append (pv 4) (pa_cons (pe_op op_add_str (pe_op op_add_str (pe_ix ix_str pe_str (pe_op op_mod (pv 7) pe_int) (fun _ _ => rfl)) (pe_ix ix_list (pe_lst (pa_cons pe_str (pa_cons pe_str (pa_cons pe_str pa_nil (star1 rfl)) (star1 rfl)) (star1 rfl))) (pe_op op_fdiv (pv 7) pe_int) (fun _ _ => rfl))) (pv 1)) pa_nil (star1 rfl)))))))
  (pss_cons (ps_for PassesOwn.never rfl (pi_tup (pe_tup (pa_cons pe_str (pa_cons pe_str (pa_cons pe_str (pa_cons pe_str (pa_cons pe_str pa_nil (star1 rfl)) (star1 rfl)) (star1 rfl)) (star1 rfl)) (star1 rfl)))) (pg_name (i := 6) sc__law_names.nd rfl (Or.inl rfl)) (pss_one (ps_if (PW.pt (pw_and (pt_cmpR op_eq (pe_call (ok__law_pick T) (hr.mono (by decide)) rfl T.m__law_pick T.F__law_pick.kp (b__law_pick T) .nil pass0 (pa_cons (pv 0) (pa_cons pe_int pa_nil (star1 rfl)) (star1 rfl)) (by decide) (star1 rfl) (starAll rfl)) pe_int (nomark _)) (pw_and1 (pt_cmpR op_notIn_seq (pv 6) (pv 4) (by with_unfolding_all rfl))))) (pss_one (ps_asg (pv 6) (pg_sub (pv 4) (pe_call (ok__law_pick T) (hr.mono (by decide)) rfl T.m__law_pick T.F__law_pick.kp (b__law_pick T) .nil pass0 (pa_cons (pv 0) (pa_cons pe_int pa_nil (star1 rfl)) (star1 rfl)) (by decide) (star1 rfl) (starAll rfl)) set_list))) pss_nil)))
  (pss_one (ps_ret (pv 4)))))))), ?_⟩
  -- the stem
  refine q_asgP ?_
  refine ⟨⟨_, rfl⟩, _, rfl, h, l, 7, rfl, A0, by decide, by decide, fun n H1 n0 n1 A1 kp1 => ⟨n, rfl, by omega, by omega, fun D hD => ?_⟩⟩
  obtain ⟨d1, d2⟩ := A1.fresh hD
  refine lc_range (lo := 0) (n := n.toNat) (fun i H' => Hand H' h l ∧ Kp h l H H' ∧ ∃ cs : List Nat, H' D = some (.lst ((cs.map fun c => (⟨#[c]⟩ : Str)).map V.str)) ∧ cs.length = i ∧ ∀ c ∈ cs, 97 ≤ c ∧ c ≤ 122) ?_ ?_ ?_
  · exact ⟨A1.new hD, kp1.trans (Kp.ex (Ex.new hD)), [], upd_same, rfl, fun c hc => by cases hc⟩
  · intro i H2 hi hP
    obtain ⟨A2, kp2, cs, hacc, hlen, hlet⟩ := hP
    refine ⟨rfl, tYesQ ?_⟩
    refine ⟨_, rfl, of_text (E := E0) A2 (by decide +kernel) (by decide +kernel) fun c H3 hc A3 kp3 => ?_⟩
    refine ⟨_, kp3 D _ d1 d2 hacc, sz_lt (by rw [List.length_map, List.length_map]; omega), A3.upd d1 d2, ?_, cs ++ [c], ?_, ?_, ?_⟩
    · intro a o m1 m2 ha
      have h1 := kp1 a o m1 m2 ha
      rw [upd_ne (fun z => by subst z; rw [hD] at h1; cases h1)]
      exact kp3 a o m1 m2 (kp2 a o m1 m2 ha)
    · rw [upd_same]
      simp
    · rw [List.length_append, hlen] <;> rfl
    · intro c' hc'
      rcases List.mem_append.mp hc' with hc' | hc'
      · exact hlet c' hc'
      · rw [List.mem_singleton.mp hc']
        have hall : ∀ c ∈ ("abdeghinoprstu" : Str).cps.toList, 97 ≤ c ∧ c ≤ 122 := by decide +kernel
        exact hall c hc
  intro H2 hP
  obtain ⟨A2, kp2, cs, hacc, hlen, hlet⟩ := hP
  have hcl : cs.length ≤ 6 := by omega
  refine ⟨_, D, cs.map fun c => (⟨#[c]⟩ : Str), rfl, rfl, Or.inl (sq_of hacc), ?_, ?_⟩
  · have e : ((cs.map fun c => (⟨#[c]⟩ : Str)).map (·.length)).sum = cs.length := by
      rw [List.map_map]
      have : (Str.length ∘ fun c => (⟨#[c]⟩ : Str)) = fun _ : Nat => 1 := by funext c; rfl
      have e2 : (cs.map fun _ : Nat => 1).sum = cs.length := by
        clear hacc hlen hlet hcl
        induction cs with
        | nil => rfl
        | cons c r ih => simp only [List.map_cons, List.sum_cons, List.length_cons, ih]; omega
      exact (congrArg (fun f => (cs.map f).sum) this).trans e2
    rw [e, List.length_map]
    have e0 : ("" : Str).length = 0 := by decide +kernel
    rw [e0]
    omega
  generalize hst : Txt.join "" (cs.map fun c => (⟨#[c]⟩ : Str)) = stem
  have hsc : stem.cps.toList = cs := by rw [← hst]; exact join_signs cs
  have hsl : stem.length ≤ 6 := by
    have : stem.length = stem.cps.toList.length := by simp [Str.length]
    rw [this, hsc]
    exact hcl
  -- first, step
  refine q_parP ?_
  refine ⟨_, rfl, h, l, 60, rfl, A2, by decide, by decide, fun first H3 f0 f1 A3 kp3 => ?_⟩
  refine ⟨_, rfl, (by show 5 ≤ sizeLine; decide), fun p hp => ?_⟩
  obtain ⟨p1, p2⟩ := A3.fresh hp
  refine of_list (E := E0) (A3.new hp) upd_same p1 p2 (by decide) (by decide) fun v H4 hv A4 kp4 => ?_
  obtain ⟨step, rfl, hstep⟩ : ∃ step : Int, v = .int step ∧ (step = 1 ∨ step = 7 ∨ step = 11 ∨ step = 13 ∨ step = 59) := by
    simp only [List.mem_cons, List.not_mem_nil, or_false] at hv
    rcases hv with h | h | h | h | h
    · exact ⟨1, h, by simp⟩
    · exact ⟨7, h, by simp⟩
    · exact ⟨11, h, by simp⟩
    · exact ⟨13, h, by simp⟩
    · exact ⟨59, h, by simp⟩
  have s0 : 0 ≤ step ∧ step ≤ 59 := by omega
  have kp5 : Kp h l H H4 := ((kp2.trans kp3).trans (Kp.ex (Ex.new hp))).trans kp4
  refine ⟨_, _, rfl, ?_⟩
  -- found = []
  refine q_asgP ?_
  refine ⟨(by show 0 ≤ sizeLine; decide), fun f hf => ?_⟩
  obtain ⟨f1', f2'⟩ := A4.fresh hf
  have fH : H f = none := by
    cases hx : H f with
    | none => rfl
    | some o => rw [kp5 f o f1' f2' hx] at hf; cases hf
  generalize hH5 : upd H4 f (.lst []) = H5
  have e5 : Ex H4 H5 := by rw [← hH5]; exact Ex.new hf
  have hf5 : H5 f = some (.lst []) := by rw [← hH5]; exact upd_same
  -- the sixty
  refine q_forR1 (n := 60) (ea_cons ev_c ea_nil) (by decide) (fun i σ' H' => Ex H4 H' ∧ H' f = some (.lst (((List.range i).map (nmOf first step cs)).map V.str)) ∧ ∃ c5 c6 c7, σ' = [some (.ref h), some (.str stem), some (.int first), some (.int step), some (.ref f), c5, c6, c7]) ?_ ?_ ?_
  · intro H6 e6
    exact ⟨e5.trans e6, e6 _ _ hf5, _, _, _, rfl⟩
  · intro i σ' H6 hi hP
    obtain ⟨e6, hf6, c5, c6, c7, rfl⟩ := hP
    generalize hsp : (first + step * (i : Int)) % 60 = spot
    have sp0 : 0 ≤ spot := by rw [← hsp]; exact Int.emod_nonneg _ (by decide)
    have sp1 : spot < 60 := by rw [← hsp]; exact Int.emod_lt_of_pos _ (by decide)
    refine q_asg (v := .int spot) (ev_is (ev_I (by decide) (ev_I0 (ev_var rfl) (ev_I (C := CMul) (Or.inl ⟨by omega, by omega⟩) (ev_var rfl) (ev_var rfl))) ev_c) (by rw [hsp])) fun H7 e7 => ?_
    have hf7 := e7 _ _ hf6
    have ev1 : Ev (tOp rIxS (tC (.str "abcdefghijklmnopqrstuvwxyz")) (tOp (rI (fun _ j => 0 < j) fun i j => .int (i % j)) (tVar 7) (tC (.int 26)))) [some (.ref h), some (.str stem), some (.int first), some (.int step), some (.ref f), some (.int (i : Int)), c6, some (.int spot)] H7 (.str ⟨#[97 + spot.toNat % 26]⟩) := by
      refine ev_op ev_c (ev_I (by decide) (ev_var rfl) ev_c) (rv_ixS (c := 97 + spot.toNat % 26) (by decide +kernel) ?_)
      have h26 : spot % 26 = ((spot.toNat % 26 : Nat) : Int) := by omega
      rw [h26]
      have := alpha_at ⟨spot.toNat % 26, Nat.mod_lt _ (by decide)⟩
      exact atI_nat this
    have ev2 : Ev (tOp (rIxL K) (tLst (tCons (tC (.str "")) (tCons (tC (.str "q")) (tCons (tC (.str "x")) tNil)))) (tOp (rI CDiv fun i j => .int (i / j)) (tVar 7) (tC (.int 26)))) [some (.ref h), some (.str stem), some (.int first), some (.int step), some (.ref f), some (.int (i : Int)), c6, some (.int spot)] H7 (.str ⟨(midOf (spot.toNat / 26)).toArray⟩) := by
      refine ev_opL1 (xs := [.str "", .str "q", .str "x"]) (el_lst (ea_cons ev_c (ea_cons ev_c (ea_cons ev_c ea_nil))) (by decide)) (fun H8 e8 => ev_I (C := CDiv) (by constructor <;> decide) (ev_var rfl) ev_c) (fun p H8 hp8 e8 => rv_ixL (sq_of hp8) ?_)
      have c : spot / 26 = 0 ∨ spot / 26 = 1 ∨ spot / 26 = 2 := by omega
      have hq : spot.toNat / 26 = (spot / 26).toNat := by omega
      rw [hq]
      rcases c with c | c | c <;> rw [c]
      · exact (by decide +kernel : atI [V.str "", V.str "q", V.str "x"] 0 = some (V.str ⟨(midOf (0 : Int).toNat).toArray⟩))
      · exact (by decide +kernel : atI [V.str "", V.str "q", V.str "x"] 1 = some (V.str ⟨(midOf (1 : Int).toNat).toArray⟩))
      · exact (by decide +kernel : atI [V.str "", V.str "q", V.str "x"] 2 = some (V.str ⟨(midOf (2 : Int).toNat).toArray⟩))
    have hml : (midOf (spot.toNat / 26)).length ≤ 1 := by
      unfold midOf
      split
      · simp
      · split <;> simp
    have l1 : (⟨#[97 + spot.toNat % 26]⟩ : Str).length = 1 := rfl
    have l2 : (⟨(midOf (spot.toNat / 26)).toArray⟩ : Str).length ≤ 1 := by simpa [Str.length] using hml
    refine s_app (v := .str (nmOf first step cs i)) hf7 (ev_var rfl) (ev_is (ev_addS (ev_addS ev1 ev2 (by omega)) (ev_var rfl) (by rw [Str.length_append]; omega)) ?_) (by rw [List.length_map, List.length_map, List.length_range]; omega) fun H8 e8 => ?_
    · congr 1
      refine TL.ext_tl ?_
      unfold nmOf
      rw [hsp]
      show ((#[97 + spot.toNat % 26] ++ (midOf (spot.toNat / 26)).toArray) ++ stem.cps).toList = (spotL spot.toNat cs).toArray.toList
      unfold spotL
      simp [← hsc]
    · refine ⟨Ex.mut ((e6.trans e7).trans e8) hf, ?_, _, _, _, rfl⟩
      rw [upd_same, List.range_succ]
      simp
  intro σ' H6 hP
  obtain ⟨e6, hf6, c5, c6, c7, rfl⟩ := hP
  have A6 := A4.ex e6
  -- the words
  refine q_forTu (K := K) (xs := [.str "end", .str "hand", .str "group", .str "let", .str "program"]) (eu_tup (ea_cons ev_c (ea_cons ev_c (ea_cons ev_c (ea_cons ev_c (ea_cons ev_c ea_nil))))) (by decide)) (fun p i σ' H' => H' p = some (.tup [.str "end", .str "hand", .str "group", .str "let", .str "program"]) ∧ Hand H' h l ∧ Kp h l H H' ∧ ∃ xs : List Str, H' f = some (.lst (xs.map V.str)) ∧ xs.length = 60 ∧ xs.Nodup ∧ (∀ s ∈ xs, nameOk s) ∧ ∃ c5 c6 c7, σ' = [some (.ref h), some (.str stem), some (.int first), some (.int step), some (.ref f), c5, c6, c7]) ?_ ?_ ?_ ?_
  · intro p H7 hp e7 hp7
    refine ⟨hp7, A6.ex e7, kp5.trans (Kp.ex (e6.trans e7)), (List.range 60).map (nmOf first step cs), e7 _ _ hf6, by rw [List.length_map, List.length_range], map_nodup (nm_inj hstep), ?_, _, _, _, rfl⟩
    intro s hs
    obtain ⟨k, _, rfl⟩ := List.mem_map.mp hs
    exact nm_ok hlet hcl k
  · intro p i σ' H' _ hP
    exact st_of hP.1
  · intro p i x σ' H7 hx hP
    obtain ⟨hp7, A7, kp7, xs, hf7, hxl, hnd, hok, c5, c6, c7, rfl⟩ := hP
    obtain ⟨wd, rfl, hwd⟩ : ∃ wd : Str, x = .str wd ∧ nameOk wd := by
      have := List.mem_of_getElem? hx
      simp only [List.mem_cons, List.not_mem_nil, or_false] at this
      rcases this with h | h | h | h | h
      · exact ⟨_, h, ⟨by decide +kernel, by decide +kernel, by decide +kernel⟩⟩
      · exact ⟨_, h, ⟨by decide +kernel, by decide +kernel, by decide +kernel⟩⟩
      · exact ⟨_, h, ⟨by decide +kernel, by decide +kernel, by decide +kernel⟩⟩
      · exact ⟨_, h, ⟨by decide +kernel, by decide +kernel, by decide +kernel⟩⟩
      · exact ⟨_, h, ⟨by decide +kernel, by decide +kernel, by decide +kernel⟩⟩
    refine ⟨_, rfl, h, l, 4, rfl, A7, by decide, by decide, fun r H8 r0 r1 A8 kp8 => ?_⟩
    have hf8 := kp8 f _ f1' f2' hf7
    have hp8 := kp_tup A7 kp8 hp7
    refine ⟨rfl, _, rfl, ?_⟩
    refine ite2 (fun c => ?_) (fun c => ?_)
    · refine ⟨_, rfl, _, rfl, f, _, rfl, Or.inl (sq_of hf8), rfl, NL.flat_strs xs, _, rfl, ?_⟩
      refine ite2 (fun c2 => ?_) (fun c2 => ?_)
      · have hni : wd ∉ xs := by
          rw [in_strs] at c2
          simpa using c2
        refine ⟨_, rfl, _, rfl, _, rfl, h, l, 60, rfl, A8, by decide, by decide, fun j H9 j0 j1 A9 kp9 => ?_⟩
        have hf9 := kp9 f _ f1' f2' hf8
        refine ⟨f, xs.map V.str, j, j.toNat, rfl, rfl, hf9, ?_, ?_⟩
        · unfold ixN
          rw [if_pos j0, if_pos (by rw [List.length_map, hxl]; exact j1)]
        · refine ⟨TK.lst hf9 _ _ (kp_tup A8 kp9 hp8), A9.upd f1' f2', ?_, xs.set j.toNat wd, ?_, by rw [List.length_set]; exact hxl, nodup_set hnd hni _, ?_, _, _, _, rfl⟩
          · intro a o m1 m2 ha
            rw [upd_ne (fun z => by subst z; rw [fH] at ha; cases ha)]
            exact ((kp7.trans kp8).trans kp9) a o m1 m2 ha
          · rw [upd_same, List.map_set]
          · intro s hs
            rcases List.mem_or_eq_of_mem_set hs with hs | hs
            · exact hok s hs
            · rw [hs]
              exact hwd
      · exact ⟨hp8, A8, kp7.trans kp8, xs, hf8, hxl, hnd, hok, _, _, _, rfl⟩
    · exact ⟨hp8, A8, kp7.trans kp8, xs, hf8, hxl, hnd, hok, _, _, _, rfl⟩
  · intro p σ' H7 hP
    obtain ⟨hp7, A7, kp7, xs, hf7, hxl, hnd, hok, c5, c6, c7, rfl⟩ := hP
    refine s_ret (v := .ref f) (ev_var rfl) fun H8 e8 => ?_
    exact q f xs H8 (A7.ex e8) (kp7.trans (Kp.ex e8)) fH f1' f2' (e8 _ _ hf7) hxl hnd hok
end
/-! ### a group drawn -/
def spGr (d : Nat) : Sp := fun vs H Q _ => ∃ (h l nm : Addr) (xs : List Str) (w : Nat), vs = [.ref h, .ref nm, .int d, .int w] ∧ Hand H h l ∧ nm ≠ h ∧ nm ≠ l ∧ H nm = some (.lst (xs.map V.str)) ∧ 1 ≤ w ∧ w ≤ 100 ∧ mem (d + 1) w ≤ xs.length ∧ xs.length ≤ 1000 ∧
  ∀ (v : V) (n : Str) (b : Int) (ms : List Tr) (ys : List Str) (H' : Hp), Hand H' h l → Kn h l nm H H' → H' nm = some (.lst (ys.map V.str)) → xs = ys ++ (Tr.grp n b ms).nms.reverse → TrV H' v (.grp n b ms) → (Tr.grp n b ms).ok → (Tr.grp n b ms).deep ≤ d + 1 → (Tr.grp n b ms).size ≤ mem (d + 1) w → Q v H'
section
variable {P : Program} {w : World} {K : PySem.W.Frag} {mg : Str → Option Value} {base : Heap}
theorem gr_step (T : Tp w K mg) {d : Nat} {spR : Sp} (ih : FnOk P w K mg base CX0 (d + 2) T.f__law_group T.d__law_group ["_law_hand_here", "_law_names_here", "_law_deep", "_law_wide"] spR) (hR : ∀ d', d = d' + 1 → spR = spGr d') :
    FnOk P w K mg base CX0 (d + 3) T.f__law_group T.d__law_group ["_law_hand_here", "_law_names_here", "_law_deep", "_law_wide"] (spGr d) := by
  refine T.F__law_group.ok sc__law_group (fun vs H Q E h => ?_) (fun cdv A outer s H vs Q E hr h => ?_)
  · obtain ⟨h, l, nm, xs, w, rfl, _⟩ := h
    rfl
  obtain ⟨h, l, nm, xs, wd, rfl, A0, nh, nl, hnm, w1, w2, hneed, hxl, q⟩ := h
  refine ⟨_, (pss_cons (ps_set (i := 4) sc__law_group.nd rfl (Or.inl rfl) (pe_call (ok__law_of T) (hr.mono (by omega)) rfl T.m__law_of T.F__law_of.kp (b__law_of T) .nil pass0 (pa_cons (pv 0) (pa_cons (pe_lst (pa_cons pe_int (pa_cons pe_int (pa_cons pe_int (pa_cons pe_int (pa_cons (pe_op op_add pe_int (pe_call (ok__law_pick T) (hr.mono (by omega)) rfl T.m__law_pick T.F__law_pick.kp (b__law_pick T) .nil pass0 (pa_cons (pv 0) (pa_cons pe_int pa_nil (star1 rfl)) (star1 rfl)) (by decide) (star1 rfl) (starAll rfl))) (pa_cons pe_int pa_nil (star1 rfl)) (star1 rfl)) (star1 rfl)) (star1 rfl)) (star1 rfl)) (star1 rfl))) pa_nil (star1 rfl)) (star1 rfl)) (by decide) (star1 rfl) (starAll rfl)))
  (pss_cons (ps_par rfl sc__law_group.nd (i := 5) (j := 6) rfl rfl (by decide) rfl rfl (pa_cons (pe_bm0 PySem.F.plainAttrs_list PySem.F.slot_list_pop PySem.F.type_list_pop mt_pop (pv 1)) (pa_cons (pe_lst pa_nil) pa_nil (star1 rfl)) (star1 rfl)) (by rfl))
  (pss_cons (ps_for PassesOwn.never rfl (pi_range1 rfl T.z_range (pa_cons (pe_op op_add pe_int (pe_call (ok__law_pick T) (hr.mono (by omega)) rfl T.m__law_pick T.F__law_pick.kp (b__law_pick T) .nil pass0 (pa_cons (pv 0) (pa_cons (pv 3) pa_nil (star1 rfl)) (star1 rfl)) (by decide) (star1 rfl) (starAll rfl))) pa_nil (star1 rfl))) (pg_name (i := 7) sc__law_group.nd rfl (Or.inl rfl)) (pss_one (ps_if (PW.pt (pw_and (pt_cmpR op_gt (pv 2) pe_int (nomark _)) (pw_and1 (pt_cmpR op_gt (pe_call (ok__law_pick T) (hr.mono (by omega)) rfl T.m__law_pick T.F__law_pick.kp (b__law_pick T) .nil pass0 (pa_cons (pv 0) (pa_cons pe_int pa_nil (star1 rfl)) (star1 rfl)) (by decide) (star1 rfl) (starAll rfl)) pe_int (nomark _))))) (pss_one (ps_expr (pe_bm PySem.F.plainAttrs_list PySem.F.slot_list_append PySem.F.type_list_append mt_append (pv 6) (pa_cons (pe_call ih hr rfl T.m__law_group T.F__law_group.kp (b__law_group T) .nil pass0 (pa_cons (pv 0) (pa_cons (pv 1) (pa_cons (pe_op op_sub (pv 2) pe_int) (pa_cons (pv 3) pa_nil (star1 rfl)) (star1 rfl)) (star1 rfl)) (star1 rfl)) (by decide) (star1 rfl) (starAll rfl)) pa_nil (star1 rfl))))) (pss_one (ps_expr (pe_bm PySem.F.plainAttrs_list PySem.F.slot_list_append PySem.F.type_list_append mt_append (pv 6) (pa_cons (pe_bm0 PySem.F.plainAttrs_list PySem.F.slot_list_pop PySem.F.type_list_pop mt_pop (pv 1)) pa_nil (star1 rfl))))))))
  (pss_one (ps_ret (pe_tup (pa_cons (pv 5) (pa_cons (pv 4) (pa_cons (pe_callTy call_tuple_of rfl T.z_tuple (by decide +kernel) (pa_cons (pv 6) pa_nil (star1 rfl)) (by decide) (by decide) (star1 rfl) (starAll rfl)) pa_nil (star1 rfl)) (star1 rfl)) (star1 rfl)))))))), ?_⟩
  -- bound
  refine q_asgP ?_
  refine ⟨_, rfl, _, rfl, h, l, 40, rfl, A0, by decide, by decide, fun r H1 r0 r1 A1 kp1 => ⟨1, r, rfl, rfl, (by show 6 ≤ sizeLine; decide), fun p hp => ?_⟩⟩
  obtain ⟨p1, p2⟩ := A1.fresh hp
  refine of_list (E := E0) (A1.new hp) upd_same p1 p2 (Nat.le_add_left 1 _) (by simp) fun v H2 hv A2 kp2 => ?_
  obtain ⟨bd, rfl, b1, b2⟩ : ∃ bd : Int, v = .int bd ∧ 1 ≤ bd ∧ bd ≤ 999999999 := by
    simp only [List.mem_cons, List.not_mem_nil, or_false] at hv
    rcases hv with h | h | h | h | h | h
    · exact ⟨1, h, by decide, by decide⟩
    · exact ⟨1, h, by decide, by decide⟩
    · exact ⟨2, h, by decide, by decide⟩
    · exact ⟨3, h, by decide, by decide⟩
    · exact ⟨1 + r, h, by omega, by omega⟩
    · exact ⟨99999999, h, by decide, by decide⟩
  have kp3 : Kp h l H H2 := (kp1.trans (Kp.ex (Ex.new hp))).trans kp2
  have hnm2 := kp3 nm _ nh nl hnm
  have hmp := mem_pos d wd
  have hneed' : 1 + wd * mem d wd ≤ xs.length := hneed
  obtain ⟨xs', n, rfl⟩ := last_of (xs := xs) (by omega)
  have hxl' : wd * mem d wd ≤ xs'.length := by simp at hneed'; omega
  -- name, members
  refine q_parP ?_
  refine ⟨_, rfl, Or.inl ⟨rfl, _, sq_of hnm2⟩, nm, _, .str n, rfl, rfl, hnm2, last_get xs' n, (by show 0 ≤ sizeLine; decide), fun m hm => ⟨_, _, rfl, ?_⟩⟩
  rw [last_drop] at hm ⊢
  have kn0 : Kn h l nm H (upd H2 nm (.lst (xs'.map V.str))) := (Kn.kp kp3).put
  have A3 : Hand (upd H2 nm (.lst (xs'.map V.str))) h l := A2.upd nh nl
  obtain ⟨m1, m2⟩ := A3.fresh hm
  have m3 : m ≠ nm := fun z => by subst z; rw [upd_same] at hm; cases hm
  have mH : H m = none := by
    cases hx : H m with
    | none => rfl
    | some o => rw [kn0 m o m1 m2 m3 hx] at hm; cases hm
  generalize hH3 : upd (upd H2 nm (.lst (xs'.map V.str))) m (.lst []) = H3
  have A4 : Hand H3 h l := by rw [← hH3]; exact A3.new hm
  have kn1 : Kn h l nm H H3 := by rw [← hH3]; exact kn0.mut mH
  have hnm3 : H3 nm = some (.lst (xs'.map V.str)) := by rw [← hH3, upd_ne (Ne.symm m3)]; exact upd_same
  have hm3 : H3 m = some (.lst []) := by rw [← hH3]; exact upd_same
  -- the members
  refine q_forU ?_
  refine ⟨_, rfl, _, rfl, h, l, (wd : Int), rfl, A4, by omega, by omega, fun k H4 k0 k1 A5 kp4 => ⟨1, k, rfl, rfl, 1 + k, rfl, by omega, by omega, ?_⟩⟩
  have hk : (1 + k).toNat ≤ wd := by omega
  refine rng_turns (n := (1 + k).toNat) (fun i σ' H' => Hand H' h l ∧ Kn h l nm H H' ∧ ∃ (ys : List Str) (ts : List Tr) (vs : List V), H' nm = some (.lst (ys.map V.str)) ∧ xs' = ys ++ (nmss ts).reverse ∧ H' m = some (.lst vs) ∧ TrVs H' vs ts ∧ ts.length = i ∧ deeps ts ≤ d ∧ sizes ts ≤ i * mem d wd ∧ oks ts ∧
    ∃ c, σ' = [some (.ref h), some (.ref nm), some (.int d), some (.int wd), some (.int bd), some (.str n), some (.ref m), c]) ?_ ?_ ?_
  · refine ⟨A5, kn1.trans (Kn.kp kp4), xs', [], [], kp4 nm _ nh nl hnm3, by simp [nmss], kp4 m _ m1 m2 hm3, .nil, rfl, by simp [deeps], by simp [sizes], by simp [oks], none, rfl⟩
  · intro i σ' H5 hi hP
    obtain ⟨A6, kn5, ys, ts, vs, hnm5, hxs, hm5, htv, htl, htd, hts, hto, c, rfl⟩ := hP
    have hyl : mem d wd ≤ ys.length := by
      have h1 : xs'.length = ys.length + sizes ts := by rw [hxs, List.length_append, List.length_reverse, nmss_len]
      have h2 : (i + 1) * mem d wd ≤ wd * mem d wd := Nat.mul_le_mul_right _ (by omega)
      have h3 : (i + 1) * mem d wd = i * mem d wd + mem d wd := Nat.succ_mul _ _
      omega
    have hvl : vs.length ≤ 1000 := by rw [trvs_len htv, htl]; omega
    have hsu : (i + 1) * mem d wd = i * mem d wd + mem d wd := Nat.succ_mul _ _
    -- a hand
    have popB : ∀ {D : Ends} {H6 : Hp}, Hand H6 h l → Kp h l H5 H6 → (∀ σ2 H7, (Hand H7 h l ∧ Kn h l nm H H7 ∧ ∃ (ys : List Str) (ts : List Tr) (vs : List V), H7 nm = some (.lst (ys.map V.str)) ∧ xs' = ys ++ (nmss ts).reverse ∧ H7 m = some (.lst vs) ∧ TrVs H7 vs ts ∧ ts.length = i + 1 ∧ deeps ts ≤ d ∧ sizes ts ≤ (i + 1) * mem d wd ∧ oks ts ∧
        ∃ c, σ2 = [some (.ref h), some (.ref nm), some (.int d), some (.int wd), some (.int bd), some (.str n), some (.ref m), c]) → D.nx σ2 H7) →
        tDrop (tBM K "list" rAppend (tVar 6) (tCons (tBM0 K "list" rPop (tVar 1)) tNil)) D [some (.ref h), some (.ref nm), some (.int d), some (.int wd), some (.int bd), some (.str n), some (.ref m), some (.int (0 + (i : Int)))] H6 := by
      intro D H6 A7 kp6 next
      have hnm6 := kp6 nm _ nh nl hnm5
      have hm6 := kp6 m _ m1 m2 hm5
      obtain ⟨ys', y, rfl⟩ := last_of (xs := ys) (by omega)
      refine ⟨.ref m, rfl, Or.inl ⟨rfl, vs, sq_of hm6⟩, _, rfl, Or.inl ⟨rfl, _, sq_of hnm6⟩, nm, _, .str y, rfl, rfl, hnm6, last_get ys' y, ?_⟩
      rw [last_drop]
      have hm7 : upd H6 nm (.lst (ys'.map V.str)) m = some (.lst vs) := by rw [upd_ne m3]; exact hm6
      refine ⟨m, vs, .str y, rfl, rfl, hm7, sz_lt (by omega), next _ _ ⟨(A7.upd nh nl).upd m1 m2, ((kn5.trans (Kn.kp kp6)).put).mut mH, ys', ts ++ [.hand y], vs ++ [.str y], ?_, ?_, upd_same, ?_, ?_, ?_, ?_, ?_, _, rfl⟩⟩
      · rw [upd_ne (Ne.symm m3)]; exact upd_same
      · rw [hxs, nmss_app]; simp [nmss, Tr.nms]
      · have k1 : TK H5 H6 := (Kn.kp kp6 : Kn h l nm H5 H6).tk A6 hnm5
        exact trvs_app (trvs_tk ((k1.trans (TK.lst hnm6)).trans (TK.lst hm7)) _ _ htv) (.cons (.hand y) .nil)
      · rw [List.length_append, htl]; rfl
      · rw [deeps_app]; simp [deeps, Tr.deep]; exact htd
      · rw [sizes_app]; simp [sizes, Tr.size]; omega
      · exact oks_app hto (by simp [oks, Tr.ok])
    refine ⟨_, rfl, (d : Int), 0, rfl, rfl, _, rfl, ?_⟩
    refine ite2 (fun c1 => ?_) (fun c1 => ?_)
    · refine ⟨_, rfl, h, l, 3, rfl, A6, by decide, by decide, fun r5 H6 r50 r51 A7 kp6 => ⟨r5, 0, rfl, rfl, _, rfl, ?_⟩⟩
      refine ite2 (fun c2 => ?_) (fun c2 => ?_)
      · have hd0 : (0 : Int) < (d : Int) := of_decide_eq_true c1
        obtain ⟨d', rfl⟩ : ∃ d', d = d' + 1 := ⟨d - 1, by omega⟩
        have eR := hR d' rfl
        subst eR
        have hnm6 := kp6 nm _ nh nl hnm5
        have hm6 := kp6 m _ m1 m2 hm5
        refine ⟨.ref m, rfl, Or.inl ⟨rfl, vs, sq_of hm6⟩, _, rfl, _, rfl, _, rfl, _, _, rfl, rfl, _, rfl, h, l, nm, ys, wd, ?_, A7, nh, nl, hnm6, w1, w2, hyl, ?_, fun v n' b' ms' zs H7 A8 kn7 hnm7 hys tv tok tdp tsz => ?_⟩
        · have e : ((d' + 1 : Nat) : Int) - 1 = (d' : Int) := by omega
          show [V.ref h, V.ref nm, V.int (((d' + 1 : Nat) : Int) - 1), V.int (wd : Int)] = _
          rw [e]
        · have : xs'.length = ys.length + sizes ts := by rw [hxs, List.length_append, List.length_reverse, nmss_len]
          simp at hxl
          omega
        have hm7 := kn7 m _ m1 m2 m3 hm6
        have k1 : TK H5 H6 := (Kn.kp kp6 : Kn h l nm H5 H6).tk A6 hnm5
        have k2 : TK H6 H7 := kn7.tk A7 hnm6
        refine ⟨m, vs, v, rfl, rfl, hm7, sz_lt (by omega), A8.upd m1 m2, ((kn5.trans (Kn.kp kp6)).trans kn7).mut mH, zs, ts ++ [.grp n' b' ms'], vs ++ [v], ?_, ?_, upd_same, ?_, ?_, ?_, ?_, ?_, _, rfl⟩
        · rw [upd_ne (Ne.symm m3)]; exact hnm7
        · rw [hxs, hys, nmss_app]; simp [nmss]
        · exact trvs_app (trvs_tk ((k1.trans k2).trans (TK.lst hm7)) _ _ htv) (.cons (trv_tk (TK.lst hm7) _ _ tv) .nil)
        · rw [List.length_append, htl]; rfl
        · rw [deeps_app]
          simp only [deeps]
          omega
        · rw [sizes_app]
          simp only [sizes]
          omega
        · exact oks_app hto ⟨tok, by simp [oks]⟩
      · exact popB A7 kp6 (fun σ2 H7 h7 => h7)
    · exact popB A6 (Kp.refl h l H5) (fun σ2 H7 h7 => h7)
  · intro σ' H5 hP
    obtain ⟨A6, kn5, ys, ts, vs, hnm5, hxs, hm5, htv, htl, htd, hts, hto, c, rfl⟩ := hP
    refine s_retP ?_
    refine ⟨_, rfl, _, rfl, _, rfl, m, vs, rfl, Or.inl ⟨sq_of hm5, fun t ht => ⟨(by show 3 ≤ sizeLine; decide), fun a ha => ?_⟩⟩⟩
    have e1 : Ex H5 (upd (upd H5 t (.tup vs)) a (.tup [.str n, .int bd, .ref t])) := (Ex.new ht).trans (Ex.new ha)
    refine q (.ref a) n bd ts ys _ (A6.ex e1) (kn5.trans (Kn.ex e1)) (e1 _ _ hnm5) ?_ (.grp upd_same ((Ex.new ha) _ _ upd_same) (trvs_tk (TK.ex e1) _ _ htv)) ?_ ?_ ?_
    · rw [hxs]; simp [Tr.nms]
    · refine ⟨b1, b2, ?_, hto⟩
      intro z
      rw [z] at htl
      simp at htl
      omega
    · simp only [Tr.deep]
      omega
    · have h2 : (1 + k).toNat * mem d wd ≤ wd * mem d wd := Nat.mul_le_mul_right _ hk
      have h3 : mem (d + 1) wd = 1 + wd * mem d wd := rfl
      simp only [Tr.size]
      omega
end
section
variable {P : Program} {w : World} {K : PySem.W.Frag} {mg : Str → Option Value} {base : Heap}
theorem gr_all (T : Tp w K mg) : ∀ d, FnOk P w K mg base CX0 (d + 3) T.f__law_group T.d__law_group ["_law_hand_here", "_law_names_here", "_law_deep", "_law_wide"] (spGr d)
  | 0 => gr_step T (spR := fun _ _ _ _ => False) ⟨fun _ _ _ _ h => h.elim, fun _ _ _ _ _ _ _ _ _ _ _ _ _ h => h.elim⟩ (fun d' h => by cases h)
  | d + 1 => gr_step T (gr_all T d) (fun d' h => by cases h; rfl)
def spGrA : Sp := fun vs H Q E => ∃ d, d ≤ 7 ∧ spGr d vs H Q E
theorem ok__law_group (T : Tp w K mg) : FnOk P w K mg base CX0 10 T.f__law_group T.d__law_group ["_law_hand_here", "_law_names_here", "_law_deep", "_law_wide"] spGrA :=
  ⟨fun vs H Q E h => by
    obtain ⟨d, _, h⟩ := h
    exact (gr_all (P := P) (base := base) T d).len vs H Q E h, fun A outer s H args us vs Q E hr e0 hb r h => by
    obtain ⟨d, hd, h⟩ := h
    exact ((gr_all T d).mono (by omega)).run A outer s H args us vs Q E hr e0 hb r h⟩
/-- deep and wide, such that the names are enough -/
def sizeOk (v : V) (H : Hp) : Prop := ∃ (t : Addr) (d wd : Nat), v = .ref t ∧ H t = some (.tup [.int d, .int wd]) ∧ d ≤ 7 ∧ 1 ≤ wd ∧ wd ≤ 100 ∧ mem (d + 1) wd ≤ 15
def spSizes : Sp := fun vs H Q _ => vs = [] ∧ ∀ a xs H', Ex H H' → H a = none → H' a = some (.lst xs) → 1 ≤ xs.length → xs.length ≤ 100 → (∀ v ∈ xs, sizeOk v H') → Q (.ref a) H'
def spPlan : Sp := fun vs H Q _ => ∃ (h l sa : Addr) (xs : List V), vs = [.ref h, .ref sa] ∧ Hand H h l ∧ sa ≠ h ∧ sa ≠ l ∧ H sa = some (.lst xs) ∧ 1 ≤ xs.length ∧ xs.length ≤ 100 ∧ (∀ v ∈ xs, sizeOk v H) ∧
  ∀ (v : V) (n : Str) (b : Int) (ms : List Tr) (H' : Hp), Hand H' h l → Kp h l H H' → TrV H' v (.grp n b ms) → (Tr.grp n b ms).ok → (Tr.grp n b ms).deep ≤ 8 → (Tr.grp n b ms).size ≤ 15 → (Tr.grp n b ms).nms.Nodup → (∀ x ∈ (Tr.grp n b ms).nms, nameOk x) → Q v H'
theorem ok__law_plan (T : Tp w K mg) : FnOk P w K mg base CX0 11 T.f__law_plan T.d__law_plan ["_law_hand_here", "_law_sizes_here"] spPlan := by
  refine T.F__law_plan.ok sc__law_plan (fun vs H Q E h => ?_) (fun cdv A outer s H vs Q E hr h => ?_)
  · obtain ⟨h, l, sa, xs, rfl, _⟩ := h
    rfl
  obtain ⟨h, l, sa, xs, rfl, A0, n1, n2, hsa, x1, x2, hxs, q⟩ := h
  refine ⟨_, (pss_cons (ps_asg (pe_call (ok__law_of T) (hr.mono (by decide)) rfl T.m__law_of T.F__law_of.kp (b__law_of T) .nil pass0 (pa_cons (pv 0) (pa_cons (pv 1) pa_nil (star1 rfl)) (star1 rfl)) (by decide) (star1 rfl) (starAll rfl)) (pg_tup rfl (pgs_cons (pg_name (i := 2) sc__law_plan.nd rfl (Or.inl rfl)) (pgs_cons (pg_name (i := 3) sc__law_plan.nd rfl (Or.inl rfl)) pgs_nil))))
  (pss_one (ps_ret (pe_call (ok__law_group T) (hr.mono (by decide)) rfl T.m__law_group T.F__law_group.kp (b__law_group T) .nil pass0 (pa_cons (pv 0) (pa_cons (pe_call (ok__law_names T) (hr.mono (by decide)) rfl T.m__law_names T.F__law_names.kp (b__law_names T) .nil pass0 (pa_cons (pv 0) pa_nil (star1 rfl)) (by decide) (star1 rfl) (starAll rfl)) (pa_cons (pv 2) (pa_cons (pv 3) pa_nil (star1 rfl)) (star1 rfl)) (star1 rfl)) (star1 rfl)) (by decide) (star1 rfl) (starAll rfl))))), ?_⟩
  refine q_asgG ?_
  refine ⟨_, rfl, _, rfl, of_list (E := E0) A0 hsa n1 n2 x1 (by omega) fun v H1 hv A1 kp1 => ?_⟩
  obtain ⟨t, d, wd, rfl, ht, d7, w1, w2, hm⟩ := hxs v hv
  refine ⟨t, _, rfl, st_of (kp_tup A0 kp1 ht), rfl, _, _, rfl, _, _, rfl, rfl, ?_⟩
  refine s_retP ?_
  refine ⟨_, rfl, _, rfl, h, l, rfl, A1, fun f ns H2 A2 kp2 hf f1 f2 hf2 nl nd nok => ?_⟩
  refine ⟨_, rfl, _, rfl, d, d7, h, l, f, ns, wd, rfl, A2, f1, f2, hf2, w1, w2, by omega, by omega, fun v n b ms ys H3 A3 kn3 hys hns tv tok tdp tsz => ?_⟩
  have hsub : ∀ x ∈ (Tr.grp n b ms).nms, x ∈ ns := fun x hx => by
    rw [hns]
    exact List.mem_append_right _ (List.mem_reverse.mpr hx)
  refine q v n b ms H3 A3 ?_ tv tok (by omega) (by omega) ?_ (fun x hx => nok x (hsub x hx))
  · intro a o m1 m2 ha
    refine kn3 a o m1 m2 (fun z => ?_) (kp2 a o m1 m2 (kp1 a o m1 m2 ha))
    subst z
    rw [kp1 a o m1 m2 ha] at hf
    cases hf
  · rw [hns] at nd
    have := (List.nodup_append.mp nd).2.1
    exact nodup_rev this
end
section
variable {σ : L2.St} {H : Hp} {tr : TA}
def SA (n : Nat) (ta : TA) (σ : L2.St) (H : Hp) : Prop := ∀ H1, Ex H H1 → ∀ Q : List V → Hp → Prop, (∀ vs H2, Ex H1 H2 → vs.length = n → (∀ v ∈ vs, sizeOk v H2) → Q vs H2) → ta σ H1 Q
theorem sizeOk.ex {v : V} {H H' : Hp} (h : sizeOk v H) (e : Ex H H') : sizeOk v H' := by
  obtain ⟨t, d, wd, h1, h2, h3⟩ := h
  exact ⟨t, d, wd, h1, e _ _ h2, h3⟩
theorem sa_nil : SA 0 tNil σ H := fun H1 _ Q q => q [] H1 (Ex.refl H1) rfl (fun v h => by cases h)
theorem sa_cons {n : Nat} (d wd : Nat) (d7 : d ≤ 7) (w1 : 1 ≤ wd) (w2 : wd ≤ 100) (hm : mem (d + 1) wd ≤ 15) (hr : SA n tr σ H) : SA (n + 1) (tCons (tTup (tCons (tC (.int d)) (tCons (tC (.int wd)) tNil))) tr) σ H := fun H1 e Q q =>
  ⟨(by show 2 ≤ sizeLine; decide), fun t ht => hr _ (e.trans (Ex.new ht)) _ fun vs H3 e3 hl hvs => q (.ref t :: vs) H3 ((Ex.new ht).trans e3) (by rw [List.length_cons, hl]) fun v hv => by
    rcases List.mem_cons.mp hv with rfl | hv
    · exact ⟨t, d, wd, rfl, e3 _ _ upd_same, d7, w1, w2, hm⟩
    · exact hvs v hv⟩
end
section
variable {P : Program} {w : World} {K : PySem.W.Frag} {mg : Str → Option Value} {base : Heap}
theorem ok__law_sizes (T : Tp w K mg) : FnOk P w K mg base CX0 1 T.f__law_sizes T.d__law_sizes [] spSizes := by
  refine T.F__law_sizes.ok sc__law_sizes (fun vs H Q E h => ?_) (fun cdv A outer s H vs Q E hr h => ?_)
  · obtain ⟨rfl, _⟩ := h
    rfl
  obtain ⟨rfl, q⟩ := h
  refine ⟨_, (pss_one (ps_ret (pe_lst (pa_cons (pe_tup (pa_cons pe_int (pa_cons pe_int pa_nil (star1 rfl)) (star1 rfl))) (pa_cons (pe_tup (pa_cons pe_int (pa_cons pe_int pa_nil (star1 rfl)) (star1 rfl))) (pa_cons (pe_tup (pa_cons pe_int (pa_cons pe_int pa_nil (star1 rfl)) (star1 rfl))) (pa_cons (pe_tup (pa_cons pe_int (pa_cons pe_int pa_nil (star1 rfl)) (star1 rfl))) pa_nil (star1 rfl)) (star1 rfl)) (star1 rfl)) (star1 rfl))))), ?_⟩
  refine s_retP ?_
  have sa : SA 4 _ (start N__law_sizes []) H := sa_cons 2 2 (by decide) (by decide) (by decide) (by decide) (sa_cons 1 3 (by decide) (by decide) (by decide) (by decide) (sa_cons 0 4 (by decide) (by decide) (by decide) (by decide) (sa_cons 0 2 (by decide) (by decide) (by decide) (by decide) sa_nil)))
  refine sa H (Ex.refl H) _ fun vs H2 e2 hl hvs => ⟨sz_of (by omega), fun a ha => ?_⟩
  exact q a vs _ (e2.trans (Ex.new ha)) (fresh_back e2 ha) upd_same (by omega) (by omega) fun v hv => (hvs v hv).ex (Ex.new ha)
end
/-! ### the law's own hands and books -/
mutual
def hndT : Tr → List Str
  | .hand n => [n]
  | .grp _ _ ms => hndTs ms
def hndTs : List Tr → List Str
  | [] => []
  | t :: ts => hndT t ++ hndTs ts
end
mutual
theorem hnd_told : ∀ (t : Tr) (p : List Str), ((t.told p).filter fun r => !r.2.1).map (·.1) = hndT t
  | .hand n, p => by simp [Tr.told, hndT]
  | .grp n b ms, p => by
    simp only [Tr.told, hndT]
    rw [← hnds_told ms (n :: p)]
    simp
theorem hnds_told : ∀ (ts : List Tr) (p : List Str), ((tolds ts p).filter fun r => !r.2.1).map (·.1) = hndTs ts
  | [], p => by simp [tolds, hndTs]
  | t :: ts, p => by
    simp only [tolds, hndTs]
    rw [List.filter_append, List.map_append, hnd_told t p, hnds_told ts p]
end
theorem hnds_take : ∀ (ts : List Tr) (i : Nat) (t : Tr), ts[i]? = some t → hndTs (ts.take (i + 1)) = hndTs (ts.take i) ++ hndT t
  | [], _, _, h => by simp at h
  | u :: ts, 0, t, h => by
    simp at h
    subst h
    simp [hndTs]
  | u :: ts, i + 1, t, h => by
    have ih := hnds_take ts i t (by simpa using h)
    simp only [List.take_succ_cons, hndTs]
    rw [ih, List.append_assoc]
mutual
theorem hnd_len : ∀ t : Tr, (hndT t).length ≤ t.size
  | .hand n => by simp [hndT, Tr.size]
  | .grp n b ms => by
    have := hnds_len ms
    simp only [hndT, Tr.size]
    omega
theorem hnds_len : ∀ ts : List Tr, (hndTs ts).length ≤ sizes ts
  | [] => by simp [hndTs]
  | t :: ts => by
    have := hnd_len t
    have := hnds_len ts
    simp only [hndTs, List.length_append, sizes]
    omega
end
def spHands (d : Nat) : Sp := fun vs H Q _ => ∃ (v : V) (n : Str) (b : Int) (ms : List Tr), vs = [v] ∧ TrV H v (.grp n b ms) ∧ (Tr.grp n b ms).deep ≤ d ∧ (Tr.grp n b ms).size ≤ 1000 ∧
  ∀ r H', Ex H H' → H r = none → H' r = some (.lst ((handsOf (.grp n b ms)).map V.str)) → Q (.ref r) H'
section
variable {P : Program} {w : World} {K : PySem.W.Frag} {mg : Str → Option Value} {base : Heap}
theorem ha_none (T : Tp w K mg) : FnOk P w K mg base CX0 0 T.f__law_hands T.d__law_hands ["_law_plan_here"] (spHands 0) := by
  have no : ∀ vs H Q E, ¬ spHands 0 vs H Q E := fun vs H Q E h => by
    obtain ⟨v, n, b, ms, _, _, hd, _⟩ := h
    simp [Tr.deep] at hd
  exact ⟨fun vs H Q E h => (no vs H Q E h).elim, fun A outer s H args us vs Q E _ _ _ _ h => (no vs H Q E h).elim⟩
theorem ha_more (T : Tp w K mg) {d : Nat} (ih : FnOk P w K mg base CX0 d T.f__law_hands T.d__law_hands ["_law_plan_here"] (spHands d)) : FnOk P w K mg base CX0 (d + 1) T.f__law_hands T.d__law_hands ["_law_plan_here"] (spHands (d + 1)) := by
  refine T.F__law_hands.ok sc__law_hands (fun vs H Q E h => ?_) (fun cdv A outer s H vs Q E hr h => ?_)
  · obtain ⟨v, n, b, ms, rfl, _⟩ := h
    rfl
  obtain ⟨v, n, b, ms, rfl, hv, hdeep, hsize, q⟩ := h
  cases hv with
  | grp h1 h2 h3 =>
  rename_i a m xs
  refine ⟨_, (pss_cons (ps_set (i := 1) sc__law_hands.nd rfl (Or.inl rfl) (pe_lst pa_nil))
  (pss_cons (ps_for PassesOwn.never rfl (pi_tup (pe_ix (ixTK (K := K) rfl) (pv 0) pe_int (fun _ _ => rfl))) (pg_name (i := 2) sc__law_hands.nd rfl (Or.inl rfl)) (pss_one (ps_set (i := 1) sc__law_hands.nd rfl (Or.inl rfl) (pe_op op_cat (pv 1) (pe_ifExp (pt_val (pe_callB (isiK (K := K) rfl) rfl T.z_isinstance (by decide +kernel) (pa_cons (pv 2) (pa_cons (pe_bltn (v := .ty "str") rfl T.z_str (by decide +kernel) rfl) pa_nil (star1 rfl)) (star1 rfl)) (by decide) (by decide) (star1 rfl) (starAll rfl))) (pe_lst (pa_cons (pv 2) pa_nil (star1 rfl))) (pe_call ih hr rfl T.m__law_hands T.F__law_hands.kp (b__law_hands T) .nil pass0 (pa_cons (pv 2) pa_nil (star1 rfl)) (by decide) (star1 rfl) (starAll rfl)))))))
  (pss_one (ps_ret (pv 1))))), ?_⟩
  refine q_asgL (xs := []) (el_lst ea_nil (by simp)) fun r H1 hr1 e1 hr2 => ?_
  have hdp : deeps ms ≤ d := by simp only [Tr.deep] at hdeep; omega
  have hsz : sizes ms ≤ 1000 := by simp only [Tr.size] at hsize; omega
  refine q_forT (K := K) (a := m) (xs := xs) (ev_ixT (ev_var rfl) ev_c (st_of (e1 _ _ h1)) rfl) (st_of (e1 _ _ h2)) (fun i σ' H' => Ex H H' ∧ ∃ ra c, σ' = [some (.ref a), some (.ref ra), c] ∧ H ra = none ∧ H' ra = some (.lst ((hndTs (ms.take i)).map V.str))) ?_ ?_ ?_ ?_
  · intro H2 e2
    refine ⟨e1.trans e2, r, none, rfl, hr1, ?_⟩
    rw [e2 _ _ hr2]
    simp [hndTs]
  · intro i σ' H' _ hP
    exact st_of (hP.1 _ _ h2)
  · intro i x σ' H' hx hP
    obtain ⟨e3, ra, c, rfl, hra0, hra⟩ := hP
    obtain ⟨t, ht, tv⟩ := trvs_get h3 hx
    have tv3 := trv_tk (TK.ex e3) t x tv
    have hyl : (hndTs (ms.take i)).length ≤ 1000 := by
      have l1 := hnds_len (ms.take i)
      have l2 := sizes_take ms i
      omega
    have s1 := sizes_mem ht
    have tl := hnd_len t
    refine s_asgP ?_
    refine ⟨_, rfl, ?_⟩
    refine (et_B (ev_isHand (ev_var rfl) tv3)) H' (Ex.refl H') _ fun H4 e4 => ?_
    refine ite2 (fun hb => ?_) (fun hb => ?_)
    · cases tv3 with
      | hand nm =>
        refine ⟨_, rfl, (by show 1 ≤ sizeLine; decide), fun p hp => ?_⟩
        have e5 := Ex.new (o := .lst [.str nm]) hp
        refine ⟨ra, p, _, [.str nm], rfl, rfl, e5 _ _ (e4 _ _ hra), upd_same, sz_of (by rw [List.length_map]; simp only [List.length_singleton]; omega), fun r2 hr2 => ?_⟩
        have e6 := e5.trans (Ex.new (o := .lst ((hndTs (ms.take i)).map V.str ++ [.str nm])) hr2)
        refine ⟨e3.trans (e4.trans e6), r2, _, rfl, fresh_back ((e3.trans e4).trans e5) hr2, ?_⟩
        rw [upd_same, hnds_take ms i _ ht]
        simp [hndT]
      | grp _ _ _ => cases hb
    · cases tv3 with
      | hand nm => exact absurd rfl hb
      | grp g1 g2 g3 =>
        rename_i a' m' n' b' xs' ms'
        refine ⟨_, rfl, .ref a', n', b', ms', rfl, trv_tk (TK.ex e4) _ _ (.grp g1 g2 g3), ?_, ?_, fun b2 H5 e5 hb2 hb5 => ?_⟩
        · have := deeps_mem ht
          omega
        · omega
        have eh : handsOf (.grp n' b' ms') = hndT (.grp n' b' ms') := hnd_told _ []
        rw [eh] at hb5
        refine ⟨ra, b2, _, _, rfl, rfl, e5 _ _ (e4 _ _ hra), hb5, sz_of (by rw [List.length_map, List.length_map]; omega), fun r2 hr2 => ?_⟩
        have e6 := Ex.new (o := .lst ((hndTs (ms.take i)).map V.str ++ (hndT (.grp n' b' ms')).map V.str)) hr2
        refine ⟨((e3.trans e4).trans e5).trans e6, r2, _, rfl, fresh_back ((e3.trans e4).trans e5) hr2, ?_⟩
        rw [upd_same, hnds_take ms i _ ht, List.map_append]
  · intro σ' H' hP
    obtain ⟨e3, ra, c, rfl, hra0, hra⟩ := hP
    rw [trvs_len h3, List.take_length] at hra
    refine s_ret (v := .ref ra) (ev_var rfl) fun H4 e4 => q ra H4 (e3.trans e4) hra0 ?_
    have eh : handsOf (.grp n b ms) = hndT (.grp n b ms) := hnd_told _ []
    rw [eh]
    simp only [hndT]
    exact e4 _ _ hra
theorem ha_all (T : Tp w K mg) : ∀ d, FnOk P w K mg base CX0 d T.f__law_hands T.d__law_hands ["_law_plan_here"] (spHands d)
  | 0 => ha_none T
  | d + 1 => ha_more T (ha_all T d)
theorem ok__law_hands (T : Tp w K mg) : FnOk P w K mg base CX0 12 T.f__law_hands T.d__law_hands ["_law_plan_here"] (spHands 12) := ha_all T 12
end
/-! ### books that are drawn -/
theorem Drawn.tk {H H' : Hp} {v : V} {k : Int} (t : TK H H') (d : Drawn H v k) : Drawn H' v k := by
  obtain ⟨a, ds, rfl, ha, r⟩ := d
  exact ⟨a, ds, rfl, t _ _ ha, r⟩
def PairV (H : Hp) (k : Nat) (v : V) (y : Str) : Prop := ∃ c pa rs, v = .ref c ∧ H c = some (.tup [.str y, .ref pa]) ∧ H pa = some (.tup rs) ∧ rs.length ≤ k ∧ ∀ r ∈ rs, Drawn H r rs.length
inductive BookV (H : Hp) (k : Nat) : List V → List Str → Prop
  | nil : BookV H k [] []
  | cons {v : V} {vs : List V} {y : Str} {ys : List Str} : PairV H k v y → BookV H k vs ys → BookV H k (v :: vs) (y :: ys)
theorem PairV.tk {H H' : Hp} {k : Nat} {v : V} {y : Str} (t : TK H H') (p : PairV H k v y) : PairV H' k v y := by
  obtain ⟨c, pa, rs, rfl, h1, h2, h3, h4⟩ := p
  exact ⟨c, pa, rs, rfl, t _ _ h1, t _ _ h2, h3, fun r hr => (h4 r hr).tk t⟩
theorem BookV.tk {H H' : Hp} {k : Nat} (t : TK H H') : ∀ {vs : List V} {ys : List Str}, BookV H k vs ys → BookV H' k vs ys
  | _, _, .nil => .nil
  | _, _, .cons a b => .cons (a.tk t) (b.tk t)
theorem BookV.app {H : Hp} {k : Nat} : ∀ {vs us : List V} {ys zs : List Str}, BookV H k vs ys → BookV H k us zs → BookV H k (vs ++ us) (ys ++ zs)
  | _, _, _, _, .nil, h => h
  | _, _, _, _, .cons a b, h => .cons a (b.app h)
theorem BookV.len {H : Hp} {k : Nat} : ∀ {vs : List V} {ys : List Str}, BookV H k vs ys → vs.length = ys.length
  | _, _, .nil => rfl
  | _, _, .cons _ b => by rw [List.length_cons, List.length_cons, b.len]
theorem BookV.get {H : Hp} {k : Nat} : ∀ {vs : List V} {ys : List Str} {i : Nat} {v : V}, BookV H k vs ys → vs[i]? = some v → ∃ y, ys[i]? = some y ∧ PairV H k v y
  | _, _, _, _, .nil, e => by simp at e
  | _, _, 0, _, .cons r _, e => by simp at e; subst e; exact ⟨_, rfl, r⟩
  | _, _, i + 1, v, .cons _ t, e => by
    obtain ⟨d, h1, h2⟩ := t.get (i := i) (v := v) (by simpa using e)
    exact ⟨d, by simpa using h1, h2⟩
theorem flat7 {d : PyData} (h : flat0 d = true) : wt d ≤ 110 ∧ nodes d = 1 ∧ d.depth = 0 ∧ okD 100000000 d := by
  cases d with
  | none => simp [wt, nodes, PyData.depth, okD]
  | bool b => simp [wt, nodes, PyData.depth, okD]
  | int i =>
    simp only [flat0, Bool.and_eq_true, decide_eq_true_eq] at h
    simp only [wt, nodes, PyData.depth, okD]
    exact ⟨by omega, trivial, trivial, by omega⟩
  | str x =>
    simp only [flat0, Bool.and_eq_true, decide_eq_true_eq] at h
    simp only [wt, nodes, PyData.depth, okD]
    exact ⟨by omega, trivial, trivial, fun c hc => of_decide_eq_true (List.all_eq_true.mp h.1 c hc)⟩
  | list _ => cases h
  | tuple _ => cases h
  | dict _ => cases h
theorem flats7 : ∀ {ds : List PyData}, ds.all flat0 = true → wts ds ≤ 110 * ds.length ∧ nodess ds = ds.length ∧ PyData.depthAll ds = 0 ∧ okDs 100000000 ds
  | [], _ => by simp [wts, nodess, PyData.depthAll, okDs]
  | d :: ds, h => by
    rw [List.all_cons, Bool.and_eq_true] at h
    obtain ⟨a1, a2, a3, a4⟩ := flat7 h.1
    obtain ⟨b1, b2, b3, b4⟩ := flats7 h.2
    simp only [wts, nodess, PyData.depthAll, okDs, List.length_cons]
    exact ⟨by omega, by omega, by omega, a4, b4⟩
theorem dyf {K : PySem.W.Frag} {H : Hp} {d : PyData} (h : flat0 d = true) : Dy K H (mkV d) d := by
  cases d with
  | none => exact .non
  | bool b => exact .bl b
  | str x => exact .str x
  | int i => exact .int i
  | list _ => cases h
  | tuple _ => cases h
  | dict _ => cases h
theorem dyfs {K : PySem.W.Frag} {H : Hp} : ∀ {ds : List PyData}, ds.all flat0 = true → DyAll K H (ds.map mkV) ds
  | [], _ => .nil
  | d :: ds, h => by
    rw [List.all_cons, Bool.and_eq_true] at h
    exact .cons (dyf h.1) (dyfs h.2)
def spBk : Sp := fun vs H Q _ => ∃ (h l : Addr) (v : V) (n : Str) (b : Int) (ms : List Tr), vs = [.ref h, v, .int 4] ∧ Hand H h l ∧ TrV H v (.grp n b ms) ∧ (Tr.grp n b ms).deep ≤ 12 ∧ (Tr.grp n b ms).size < 64 ∧
  ∀ a xs ys H', Hand H' h l → Kp h l H H' → ys.Perm (handsOf (.grp n b ms)) → PyProof.Rows.sortedS ys = true → H' a = some (.tup xs) → BookV H' 4 xs ys → Q (.ref a) H'
section
variable {P : Program} {w : World} {K : PySem.W.Frag} {mg : Str → Option Value} {base : Heap}
theorem ok__law_book (T : Tp w K mg) : FnOk P w K mg base CX0 13 T.f__law_book T.d__law_book ["_law_hand_here", "_law_plan_here", "_law_upmost"] spBk := by
  refine T.F__law_book.ok sc__law_book (fun vs H Q E h => ?_) (fun cdv A outer s H vs Q E hr h => ?_)
  · obtain ⟨h, l, v, n, b, ms, rfl, _⟩ := h
    rfl
  obtain ⟨h, l, v, n, b, ms, rfl, A0, tv, tdp, tsz, q⟩ := h
  have hl2 : (handsOf (.grp n b ms)).length < 64 := by
    have := names_len (.grp n b ms)
    rw [List.length_append] at this
    omega
  refine ⟨_, (pss_one (ps_ret (pe_callTy call_tuple_of rfl T.z_tuple (by decide +kernel) (pa_cons (pe_lc (own := [("_law_name", 3)]) (g := gName 3) (tt := tYes) rfl sc__law_book.nd (pi_list (pe_callB (sortLK (K := K) rfl) rfl T.z_sorted (by decide +kernel) (pa_cons (pe_call (ok__law_hands T) (hr.mono (by decide)) rfl T.m__law_hands T.F__law_hands.kp (b__law_hands T) .nil pass0 (pa_cons (pv 1) pa_nil (star1 rfl)) (by decide) (star1 rfl) (starAll rfl)) pa_nil (star1 rfl)) (by decide) (by decide) (star1 rfl) (starAll rfl))) (blkOk_by (N := N__law_book) (sc := defScope s__law_book) (by decide +kernel)) (fun _ _ _ _ _ => (pg_name (i := 3) sc__law_book.nd rfl (Or.inl rfl))) (fun _ _ _ _ _ => pts_nil) (fun _ _ _ _ _ => (pe_tup (pa_cons (pv 3) (pa_cons (pe_call (ok__law_program T) (hr.mono (by decide)) rfl T.m__law_program T.F__law_program.kp (b__law_program T) .nil pass0 (pa_cons (pv 0) (pa_cons (pv 2) pa_nil (star1 rfl)) (star1 rfl)) (by decide) (star1 rfl) (starAll rfl)) pa_nil (star1 rfl)) (star1 rfl))))) pa_nil (star1 rfl)) (by decide) (by decide) (star1 rfl) (starAll rfl)))), ?_⟩
  refine s_retP ?_
  refine ⟨_, rfl, v, n, b, ms, rfl, tv, tdp, by omega, fun hp H1 e1 hp0 hhp => ?_⟩
  refine ⟨hp, handsOf (.grp n b ms), rfl, sq_of hhp, hl2, fun ys sp hperm hsrt hsp => ?_⟩
  have e2 := e1.trans (Ex.new (o := .lst (ys.map V.str)) hsp)
  have yl : ys.length < 64 := by rw [hperm.length_eq]; exact hl2
  have A2 := A0.ex e2
  obtain ⟨s1, s2⟩ := (A0.ex e1).fresh hsp
  refine ⟨sp, rfl, ⟨_, sq_of upd_same⟩, fun D hD => ?_⟩
  obtain ⟨d1, d2⟩ := A2.fresh hD
  have hspD : sp ≠ D := fun z => by
    subst z
    rw [upd_same] at hD
    cases hD
  refine lc_list (K := K) (a := sp) (xs := ys.map V.str) (fun i H' => Hand H' h l ∧ Kp h l (upd H1 sp (.lst (ys.map V.str))) H' ∧ ∃ acc, H' D = some (.lst acc) ∧ BookV H' 4 acc (ys.take i)) ⟨A2.new hD, Kp.ex (Ex.new hD), [], upd_same, by simp; exact .nil⟩ (fun i H' _ hP => sq_of (hP.2.1 _ _ s1 s2 upd_same)) ?_ ?_
  · intro i x H3 hx hP
    obtain ⟨A3, k3, acc, hacc, hbk⟩ := hP
    obtain ⟨y, hy, rfl⟩ : ∃ y, ys[i]? = some y ∧ V.str y = x := by
      rw [List.getElem?_map] at hx
      cases hz : ys[i]? with
      | none => rw [hz] at hx; cases hx
      | some z => rw [hz] at hx; exact ⟨z, rfl, Option.some.inj hx⟩
    have hi := (List.getElem?_eq_some_iff.mp hy).1
    have al := hbk.len
    rw [List.length_take] at al
    refine ⟨rfl, tYesQ ?_⟩
    refine ⟨_, rfl, _, rfl, _, rfl, h, l, 4, rfl, A3, by decide, by decide, fun pa rs H4 hpa hrl hdr A4 k4 => ?_⟩
    refine ⟨(by show 2 ≤ sizeLine; decide), fun t ht => ?_⟩
    have e5 := Ex.new (o := .tup [.str y, .ref pa]) ht
    have hacc4 := k4 _ _ d1 d2 hacc
    have hD5 : (upd H4 t (.tup [.str y, .ref pa])) D = some (.lst acc) := e5 _ _ hacc4
    have tk : TK (upd H4 t (.tup [.str y, .ref pa])) (upd (upd H4 t (.tup [.str y, .ref pa])) D (.lst (acc ++ [.ref t]))) := TK.lst hD5
    have tk34 : TK H3 (upd (upd H4 t (.tup [.str y, .ref pa])) D (.lst (acc ++ [.ref t]))) := fun c zs e => tk _ _ (e5 _ _ (kp_tup A3 k4 e))
    refine ⟨acc, hD5, sz_lt (by omega), (A4.ex e5).upd d1 d2, ?_, acc ++ [.ref t], upd_same, ?_⟩
    · intro c o c1 c2 hc
      have hcD : c ≠ D := fun z => by
        subst z
        rw [hD] at hc
        cases hc
      rw [upd_ne hcD]
      exact e5 _ _ (k4 c o c1 c2 (k3 c o c1 c2 hc))
    · rw [List.take_succ, hy]
      refine (hbk.tk tk34).app (.cons ⟨t, pa, rs, rfl, tk _ _ upd_same, tk _ _ (e5 _ _ hpa), by omega, fun r hr => ((hdr r hr).tk (TK.ex e5)).tk tk⟩ .nil)
  · intro H3 hP
    obtain ⟨A3, k3, acc, hacc, hbk⟩ := hP
    rw [List.length_map, List.take_length] at hbk
    refine ⟨D, acc, rfl, Or.inl ⟨sq_of hacc, fun t ht => ?_⟩⟩
    exact q t acc ys _ (A3.new ht) (((Kp.ex e2).trans k3).trans (Kp.ex (Ex.new ht))) hperm hsrt upd_same (hbk.tk (TK.ex (Ex.new ht)))
end
/-! ### what is used below -/
theorem s_ifP {t : TT} {tu tw : TS} {D : Ends} {σ : L2.St} {H : Hp} (h : t σ H fun c H1 => if c = true then tu D σ H1 else tw D σ H1) : tIfS t tu tw D σ H := h
theorem iteT' {c : Bool} {A B : Prop} (h : c = true) (a : A) : if c = true then A else B := by rw [if_pos h]; exact a
theorem iteF' {c : Bool} {A B : Prop} (h : c = false) (b : B) : if c = true then A else B := by rw [if_neg (by rw [h]; exact Bool.false_ne_true)]; exact b
theorem lst_raw {ta : TA} {σ : L2.St} {H : Hp} {Q : VK} (h : ta σ H fun xs H1 => xs.length ≤ sizeLine ∧ ∀ p, H1 p = none → Q (.ref p) (upd H1 p (.lst xs))) : tLst ta σ H Q := h
theorem tB_raw {te : TE} {σ : L2.St} {H : Hp} {Q : Bool → Hp → Prop} (h : te σ H fun x H1 => ∃ c, x = .bl c ∧ Q c H1) : tB te σ H Q := h
theorem tst_raw {te : TE} {σ : L2.St} {H : Hp} {Q : Bool → Hp → Prop} (h : te σ H fun x H1 => ∃ c, x = .bl c ∧ Q c H1) : tTest te σ H Q := h
theorem not_raw {t : TT} {σ : L2.St} {H : Hp} {Q : Bool → Hp → Prop} (h : t σ H fun c H1 => Q (!c) H1) : tNot t σ H Q := h
theorem or_raw {t u : TT} {σ : L2.St} {H : Hp} {Q : Bool → Hp → Prop} (h : t σ H fun c H1 => if c = true then Q true H1 else u σ H1 Q) : tOr t u σ H Q := h
theorem nx_tn {D : Ends} {σ : L2.St} {H : Hp} (h : D.nx σ H) : tNext D σ H := h
theorem q_ifQ {t : TT} {tu tz : TS} {D : Ends} {σ : L2.St} {H : Hp} (h : t σ H fun c H1 => if c = true then tu { D with nx := tz D } σ H1 else tz D σ H1) : tSeq (tIfS t tu tNext) tz D σ H := h
theorem andV_raw {ta tb : TE} {σ : L2.St} {H : Hp} {Q : VK} (h : ta σ H fun x H1 => ∃ c, x = .bl c ∧ if c = true then tb σ H1 Q else Q (.bl false) H1) : tAndV ta tb σ H Q := h
theorem and_raw {t u : TT} {σ : L2.St} {H : Hp} {Q : Bool → Hp → Prop} (h : t σ H fun c H1 => if c = true then u σ H1 Q else Q false H1) : tAnd t u σ H Q := h
theorem isN_raw {te : TE} {σ : L2.St} {H : Hp} {Q : VK} (h : te σ H fun x H1 => Q (.bl (decide (x = .non))) H1) : tIsN te σ H Q := h
theorem if_raw {tt : TT} {ta tb : TE} {σ : L2.St} {H : Hp} {Q : VK} (h : tt σ H fun c H1 => if c = true then ta σ H1 Q else tb σ H1 Q) : tIf tt ta tb σ H Q := h
theorem et_use {tt : TT} {σ : L2.St} {H : Hp} {b : Bool} {Q : Bool → Hp → Prop} (h : EvT tt σ H b) (k : ∀ H', Ex H H' → Q b H') : tt σ H Q := h H (Ex.refl H) Q k
theorem ev_eqL0 {K : PySem.W.Frag} {σ : L2.St} {H : Hp} {ta : TE} {a : Addr} {xs : List V} {f : Bool → Bool} (ha : Ev ta σ H (.ref a)) (hs : SqL K H a xs) : Ev (tOp (rEqL0 K f) ta (tLst tNil)) σ H (.bl (f xs.isEmpty)) := fun H1 e Q q =>
  ha H1 e _ fun H2 e2 => ⟨(by show 0 ≤ sizeLine; decide), fun p hp => ⟨a, p, xs, rfl, rfl, ex_l ((e.trans e2).trans (Ex.new hp)) hs, sq_of upd_same, q _ (e2.trans (Ex.new hp))⟩⟩
mutual
theorem lay_of88 {B : Nat} : ∀ (d : PyData), okD B d → tupOnly d = true → PyData.canLay0 d = true
  | .none, _, _ => rfl
  | .bool _, _, _ => rfl
  | .int _, _, _ => rfl
  | .str s, h, _ => asc_lay h
  | .tuple ds, h, t => lays_of88 ds h t
  | .list ds, _, t => by cases t
  | .dict ds, _, t => by cases t
theorem lays_of88 {B : Nat} : ∀ (ds : List PyData), okDs B ds → tupOnlys ds = true → PyData.canLayAll0 ds = true
  | [], _, _ => rfl
  | d :: ds, h, t => by
    have t : (tupOnly d && tupOnlys ds) = true := t
    rw [Bool.and_eq_true] at t
    show (PyData.canLay0 d && PyData.canLayAll0 ds) = true
    rw [lay_of88 d h.1 t.1, lays_of88 ds h.2 t.2]
    rfl
end
theorem shaped_of88 {B : Nat} {d : PyData} (h : okD B d) (t : tupOnly d = true) (hd : d.depth ≤ 64) : SeqAt.shaped d = true := by
  unfold SeqAt.shaped
  rw [Bool.and_eq_true]
  exact ⟨lay_of88 d h t, decide_eq_true hd⟩
/-! ### rows of words -/
def figB (z : Str) : Bool := z.cps.toList.all fun c => decide (c ∈ ("0123456789" : Str).cps.toList)
def numB (z : Str) : Bool := if ¬(1 ≤ z.length ∧ z.length ≤ 9) then false else if Txt.startswith z "0" = true ∧ z ≠ "0" then false else figB z
def tailS (z : Str) : Str := cutS z (some 1) none
def signB (z : Str) : Bool := if Txt.startswith z "-" = true then decide (z ≠ "-0") && numB (tailS z) else numB z
theorem figs_all {z : Str} : ((List.range z.cps.size).map fun i => decide (z.cps.getD i 0 ∈ ("0123456789" : Str).cps.toList)).all id = figB z := by
  unfold figB
  rw [List.all_map, Bool.eq_iff_iff, List.all_eq_true, List.all_eq_true]
  constructor
  · intro h c hc
    obtain ⟨i, hi, e⟩ := List.getElem_of_mem hc
    have hi2 : i < z.cps.size := by simpa using hi
    have := h i (List.mem_range.mpr hi2)
    simp only [Function.comp, id] at this
    rw [show z.cps.getD i 0 = c by rw [← e]; simp [Array.getD_eq_getD_getElem?, hi2]] at this
    exact this
  · intro h i hi
    have hi2 := List.mem_range.mp hi
    simp only [Function.comp, id]
    refine h _ ?_
    rw [show z.cps.getD i 0 = z.cps[i] by simp [Array.getD_eq_getD_getElem?, hi2]]
    simp
def spNumber (K : PySem.W.Frag) : Sp := fun vs H Q _ => ∃ z : Str, vs = [.str z] ∧ z.cps.size ≤ 40000 ∧ ∀ H', Ex H H' → Q (.bl (numB z)) H'
def spSigned (K : PySem.W.Frag) : Sp := fun vs H Q _ => ∃ z : Str, vs = [.str z] ∧ z.cps.size ≤ 40000 ∧ ∀ H', Ex H H' → Q (.bl (signB z)) H'
section
variable {P : Program} {w : World} {K : PySem.W.Frag} {mg : Str → Option Value} {base : Heap}
theorem ok_is_number (T : Tp w K mg) : FnOk P w K mg base CX0 1 T.f_is_number T.d_is_number ["word"] (spNumber K) := by
  refine T.F_is_number.ok sc_is_number (fun vs H Q E h => ?_) (fun cdv A outer s H vs Q E hr h => ?_)
  · obtain ⟨z, rfl, _⟩ := h
    rfl
  obtain ⟨z, rfl, hz, q⟩ := h
  refine ⟨_, (pss_cons (ps_if (pt_not (pt_chain op_le op_le pe_int (pe_callB call_len rfl T.z_len PySem.boot_len (pa_cons (pv 0) pa_nil (star1 rfl)) (by decide) (by decide) (star1 rfl) (starAll rfl)) (pe_glob (v := .int 9) rfl T.c_MOSTF ⟨_, rfl⟩))) (pss_one (ps_ret pe_bl)) pss_nil)
  (pss_cons (ps_if (PW.pt (pw_and (pt_val (pe_m1 F.slot_str_startswith F.type_str_startswith mt_startswith (pv 0) pe_str)) (pw_and1 (pt_cmpR op_ne (pv 0) pe_str (nomark _))))) (pss_one (ps_ret pe_bl)) pss_nil)
  (pss_one (ps_ret (pe_callB (allK (K := K) rfl rfl) rfl T.z_all (by decide +kernel) (pa_cons (pe_lc (own := [("sign", 1)]) (g := gName 1) (tt := tYes) rfl sc_is_number.nd (pi_str (pv 0)) (blkOk_by (N := N_is_number) (sc := defScope s_is_number) (by decide +kernel)) (fun _ _ _ _ _ => (pg_name (i := 1) sc_is_number.nd rfl (Or.inl rfl))) (fun _ _ _ _ _ => pts_nil) (fun _ _ _ _ _ => (pe_cmpR op_in_sign (pv 1) (pe_glob (v := .str "0123456789") rfl T.c_FIGURES ⟨_, rfl⟩) (by with_unfolding_all rfl)))) pa_nil (star1 rfl)) (by decide) (by decide) (star1 rfl) (starAll rfl)))))), ?_⟩
  have hz2 : z.length ≤ 1000000 := Nat.le_trans (show z.cps.size ≤ 40000 from hz) (by decide)
  refine q_ifQ (not_raw (tst_raw ?_))
  refine ⟨_, rfl, .str z, z.length, rfl, ⟨Nat.le_trans hz2 (by decide), rfl⟩, 1, z.length, rfl, rfl, _, rfl, ?_⟩
  have fin : ∀ {b : Bool}, numB z = b → ∀ H', Ex H H' → Q (.bl b) H' := fun e H' e' => by rw [← e]; exact q H' e'
  by_cases c1 : (1 : Int) ≤ (z.length : Int)
  case neg =>
    refine iteF' (decide_eq_false c1) ⟨_, rfl, iteT' rfl ?_⟩
    exact fin (by unfold numB; rw [if_pos (by omega)]) H (Ex.refl H)
  refine iteT' (decide_eq_true c1) ⟨_, _, rfl, rfl, _, rfl, ?_⟩
  by_cases c2 : (z.length : Int) ≤ 9
  case neg =>
    refine iteT' (by rw [decide_eq_false c2]; rfl) ?_
    exact fin (by unfold numB; rw [if_pos (by omega)]) H (Ex.refl H)
  refine iteF' (by rw [decide_eq_true c2]; rfl) ?_
  have c12 : ¬ ¬ (1 ≤ z.length ∧ z.length ≤ 9) := fun h => h ⟨by omega, by omega⟩
  refine q_ifQ (and_raw (tB_raw ?_))
  refine ⟨_, rfl, ⟨z, rfl⟩, z, "0", rfl, rfl, _, rfl, ?_⟩
  have all : numB z = figB z → (tRet (tCB (rAll K) (tCons (tLc (iStr (tVar 0)) (gName 1) tYes (tOp (fun x y H Q => ∃ (c : Nat) (z : Str), x = .str ⟨#[c]⟩ ∧ y = .str z ∧ Q (.bl (decide (c ∈ z.cps.toList))) H) (tVar 1) (tC (.str "0123456789"))) [1]) tNil))) { nx := fun _ H' => Q .non H', rt := Q } (L2.start N_is_number [.str z]) H := fun en => by
    have q2 : ∀ H', Ex H H' → Q (.bl (figB z)) H' := fin en
    refine s_ret (D := { nx := fun _ H' => Q .non H', rt := Q }) (ev_is (ev_allN (bs := (List.range z.cps.size).map fun i => decide (z.cps.getD i 0 ∈ ("0123456789" : Str).cps.toList)) ?_) (w := .bl (figB z)) ?_) q2
    · have c := el_lcS (σ := start N_is_number [.str z]) (H := H) (z := z) (tl := tVar 0) (te := tOp (fun x y H Q => ∃ (c : Nat) (z : Str), x = .str ⟨#[c]⟩ ∧ y = .str z ∧ Q (.bl (decide (c ∈ z.cps.toList))) H) (tVar 1) (tC (.str "0123456789"))) (j := 1) (vs := [1]) (fun i => .bl (decide (z.cps.getD i 0 ∈ ("0123456789" : Str).cps.toList))) (ev_var rfl) hz (fun x => rfl) (fun i c H3 e3 hi => ?_)
      · rw [List.map_map]
        exact c
      · have e : z.cps.getD i 0 = c := by simp [Array.getD_eq_getD_getElem?, hi]
        rw [e]
        exact ev_op (ev_var rfl) ev_c fun H4 _ Q' q' => ⟨c, _, rfl, rfl, q' H4 (Ex.refl H4)⟩
    · rw [figs_all]
  by_cases c3 : Txt.startswith z "0" = true
  · refine iteT' c3 (tst_raw ⟨_, rfl, rfl, _, rfl, ?_⟩)
    by_cases c4 : z = "0"
    · refine iteF' (by rw [c4]; rfl) (all ?_)
      unfold numB
      rw [if_neg c12, if_neg (fun h => h.2 c4)]
    · refine iteT' (by rw [decide_eq_false (fun w => c4 (by injection w))]; rfl) ?_
      exact fin (by unfold numB; rw [if_neg c12, if_pos ⟨c3, c4⟩]) H (Ex.refl H)
  · refine iteF' (by simpa using c3) (iteF' rfl (all ?_))
    unfold numB
    rw [if_neg c12, if_neg (fun h => c3 h.1)]
theorem ok_is_signed (T : Tp w K mg) : FnOk P w K mg base CX0 2 T.f_is_signed T.d_is_signed ["word"] (spSigned K) := by
  refine T.F_is_signed.ok sc_is_signed (fun vs H Q E h => ?_) (fun cdv A outer s H vs Q E hr h => ?_)
  · obtain ⟨z, rfl, _⟩ := h
    rfl
  obtain ⟨z, rfl, hz, q⟩ := h
  refine ⟨_, (pss_cons (ps_if (pt_val (pe_m1 F.slot_str_startswith F.type_str_startswith mt_startswith (pv 0) pe_str)) (pss_one (ps_ret (pe_and (pe_cmpR op_ne (pv 0) pe_str (nomark _)) (pe_one (pe_call (ok_is_number T) (hr.mono (by decide)) rfl T.m_is_number T.F_is_number.kp (b_is_number T) .nil pass0 (pa_cons (pe_slice sl_str (pv 0) (po_some pe_int) po_none) pa_nil (star1 rfl)) (by decide) (star1 rfl) (starAll rfl)))))) pss_nil)
  (pss_one (ps_ret (pe_call (ok_is_number T) (hr.mono (by decide)) rfl T.m_is_number T.F_is_number.kp (b_is_number T) .nil pass0 (pa_cons (pv 0) pa_nil (star1 rfl)) (by decide) (star1 rfl) (starAll rfl))))), ?_⟩
  have hz1 : z.length ≤ sizeLine := Nat.le_trans (show z.length ≤ 40000 from hz) (by decide)
  refine q_ifQ ?_
  refine ⟨_, rfl, ⟨z, rfl⟩, z, "-", rfl, rfl, _, rfl, ?_⟩
  by_cases c : Txt.startswith z "-" = true
  · refine iteT' c ?_
    refine s_ret (ev_is (ev_andV (a := decide (z ≠ "-0")) (b := numB (tailS z)) (ev_op (ev_var rfl) ev_c fun H1 e1 Q1 q1 => ⟨rfl, by
      have : (!decide (V.str z = V.str "-0")) = decide (z ≠ "-0") := by
        by_cases h : z = "-0"
        · subst h
          decide
        · rw [decide_eq_true h, decide_eq_false (fun w => h (by injection w))]
          rfl
      rw [this]
      exact q1 H1 (Ex.refl H1)⟩) fun _ => ev_call (ea_cons (fun H1 e1 Q1 q1 => ⟨_, rfl, 1, rfl, z, rfl, hz1, q1 H1 (Ex.refl H1)⟩) ea_nil) fun H1 e1 Q1 q1 E1 => ⟨tailS z, rfl, Nat.le_trans (cutS_length z _ _) hz, q1⟩) (w := .bl (signB z)) ?_) q
    unfold signB
    rw [if_pos c]
  · refine iteF' (by simpa using c) ?_
    refine s_ret (ev_call (ea_cons (ev_var rfl) ea_nil) fun H1 e1 Q1 q1 E1 => ⟨z, rfl, hz, ?_⟩) q
    unfold signB at q1
    rw [if_neg c] at q1
    exact q1
end
/-! ### texts: pieces, figures -/
section
open TL PySem.NumText
theorem len_app (x y : Str) : (x ++ y).length = x.length + y.length := by rw [len_tl, tl_append, List.length_append, len_tl, len_tl]
theorem join_parts (y : Str) : ∀ (ps : List Str) (p : Str), p ∈ ps → p.length ≤ (Str.join y ps).length
  | [x], p, h => by
    rw [List.mem_singleton.mp h]
    exact Nat.le_refl _
  | x :: z :: r, p, h => by
    show p.length ≤ (x ++ y ++ Str.join y (z :: r)).length
    rw [len_app, len_app]
    rcases List.mem_cons.mp h with rfl | h
    · omega
    · have := join_parts y (z :: r) p h
      omega
theorem join_many (y : Str) (hy : y.length = 1) : ∀ ps : List Str, ps.length ≤ (Str.join y ps).length + 1
  | [] => by simp
  | [x] => by simp
  | x :: z :: r => by
    show (z :: r).length + 1 ≤ (x ++ y ++ Str.join y (z :: r)).length + 1
    rw [len_app, len_app, hy]
    have := join_many y hy (z :: r)
    omega
theorem split_part {x y p : Str} (h : p ∈ Txt.split x y) : p.length ≤ x.length := by
  have := join_parts y _ p h
  rw [StrLaws.join_split] at this
  exact this
theorem split_many (x : Str) {y : Str} (hy : y.length = 1) : (Txt.split x y).length ≤ x.length + 1 := by
  have := join_many y hy (Txt.split x y)
  rw [StrLaws.join_split] at this
  exact this
theorem sw_one {z : Str} {c : Nat} : Txt.startswith z ⟨#[c]⟩ = true ↔ z.cps.toList[0]? = some c := by
  rw [← StrLaws.subAt_one]
  unfold Txt.startswith
  simp
theorem fig_in {c : Nat} (h : c ∈ ("0123456789" : Str).cps.toList) : 48 ≤ c ∧ c ≤ 57 := by
  have : ∀ c ∈ ("0123456789" : Str).cps.toList, 48 ≤ c ∧ c ≤ 57 := by decide +kernel
  exact this c h
theorem in_fig {c : Nat} (h : 48 ≤ c ∧ c ≤ 57) : c ∈ ("0123456789" : Str).cps.toList := by
  have : ∀ c : Fin 58, 48 ≤ c.val → c.val ∈ ("0123456789" : Str).cps.toList := by decide +kernel
  exact this ⟨c, by omega⟩ h.1
theorem fig_all {z : Str} : figB z = true ↔ NumText.AllDigits z.cps.toList := by
  unfold figB
  rw [List.all_eq_true]
  constructor
  · intro h c hc
    exact fig_in (of_decide_eq_true (h c hc))
  · intro h c hc
    exact decide_eq_true (in_fig (h c hc))
theorem num_len {z : Str} (h : numB z = true) : 1 ≤ z.length ∧ z.length ≤ 9 ∧ figB z = true := by
  unfold numB at h
  by_cases c : 1 ≤ z.length ∧ z.length ≤ 9
  · rw [if_neg (fun k => k c)] at h
    split at h
    · cases h
    · exact ⟨c.1, c.2, h⟩
  · rw [if_pos c] at h
    cases h
theorem num_int {z : Str} (h : numB z = true) : ∃ n : Nat, PySem.intText? z = some (n : Int) := by
  obtain ⟨h1, h2, h3⟩ := num_len h
  refine ⟨_, PySem.intText_digits (fig_all.mp h3) (fun e => ?_) (by omega)⟩
  rw [len_tl] at h1
  rw [show tl z = [] from e] at h1
  exact absurd h1 (by decide)
theorem sign_int {z : Str} (h : signB z = true) : (∃ n : Int, PySem.intText? z = some n) ∧ z.length ≤ 10 := by
  unfold signB at h
  by_cases c : Txt.startswith z "-" = true
  · rw [if_pos c, Bool.and_eq_true] at h
    obtain ⟨h1, h2, h3⟩ := num_len h.2
    have hd : z.cps.toList[0]? = some 45 := sw_one.mp c
    cases hz : z.cps.toList with
    | nil => rw [hz] at hd; cases hd
    | cons a cs =>
      rw [hz] at hd
      cases hd
      have zl : z.length = cs.length + 1 := by rw [len_tl, show tl z = 45 :: cs from hz]; rfl
      have ht : (tailS z).cps.toList = cs := by
        unfold tailS cutS
        rw [show (⟨((z.cps.toList.drop (HT.sIx z.length 0 (some 1))).take (HT.sIx z.length z.length none - HT.sIx z.length 0 (some 1))).toArray⟩ : Str).cps.toList = (z.cps.toList.drop (HT.sIx z.length 0 (some 1))).take (HT.sIx z.length z.length none - HT.sIx z.length 0 (some 1)) from rfl]
        rw [hz, show HT.sIx z.length 0 (some 1) = 1 from by rw [show (1 : Int) = ((1 : Nat) : Int) from rfl, HT.sIx_nat, zl]; omega, show HT.sIx z.length z.length none = z.length from rfl, zl]
        simp
      have tl1 : (tailS z).length = cs.length := by rw [len_tl, show tl (tailS z) = cs from ht]
      refine ⟨⟨_, PySem.intText_neg hz (by rw [← ht]; exact fig_all.mp h3) (fun e => ?_) (by omega)⟩, by omega⟩
      rw [e] at tl1
      rw [tl1] at h1
      exact absurd h1 (by decide)
  · rw [if_neg c] at h
    obtain ⟨n, hn⟩ := num_int h
    exact ⟨⟨_, hn⟩, by have := (num_len h).2.1; omega⟩
/-! numbers written -/
def numS (n : Int) : Str := Str.ofString (toString n)
theorem numS_tl (n : Nat) : (numS n).cps.toList = numL n := tl_num n
theorem numL_head : ∀ n : Nat, n ≠ 0 → (numL n)[0]? ≠ some 48 := by
  intro n
  induction n using Nat.strongRecOn with
  | _ n ih =>
    intro h0
    by_cases h : n < 10
    · rw [numL_lt h]
      simp
      omega
    · rw [numL_step (by omega)]
      have hne := numL_ne (n / 10)
      have := ih (n / 10) (by omega) (by omega)
      cases e : numL (n / 10) with
      | nil => exact absurd e hne
      | cons a r =>
        rw [e] at this
        simpa using this
theorem numS_len {n : Nat} (h : n < 10 ^ 9) : 1 ≤ (numS n).length ∧ (numS n).length ≤ 9 := by
  rw [len_tl, show tl (numS n) = numL n from numS_tl n]
  refine ⟨?_, numL_len (by decide) h⟩
  have := numL_ne n
  cases e : numL n with
  | nil => exact absurd e this
  | cons a r => simp
theorem numS_fig (n : Nat) : figB (numS n) = true := fig_all.mpr (by rw [numS_tl]; exact numL_digits n)
theorem numS_ok {n : Nat} (h : n < 10 ^ 9) : numB (numS n) = true := by
  obtain ⟨h1, h2⟩ := numS_len h
  unfold numB
  rw [if_neg (fun k => k ⟨h1, h2⟩), if_neg (fun k => ?_), numS_fig]
  have hs : (numS n).cps.toList[0]? = some 48 := sw_one.mp k.1
  rw [numS_tl] at hs
  by_cases z : n = 0
  · subst z
    exact k.2 (by decide +kernel)
  · exact numL_head n z hs
theorem numS_int {n : Nat} (h : n < 10 ^ 9) : PySem.intText? (numS n) = some (n : Int) := int_num (by have := numL_len (k := 9) (by decide) h; omega)
theorem numS_no {n s : Nat} (h : s < 48 ∨ 57 < s) : s ∉ (numS n).cps.toList := by
  rw [numS_tl]
  exact numL_free h
end
/-! ### words of a row -/
theorem nx_mkW {f : L2.St → Hp → Prop} {D : Ends} {σ : L2.St} {H : Hp} (h : f σ H) : ({ D with nx := f } : Ends).nx σ H := h
def kindB (k z : Str) : Bool := if k = "NAME" then decide (1 ≤ z.length) && lettersB z else if k = "N" then numB z else if k = "M" then signB z else decide (z = k)
def formB (ws ks : List Str) : Bool := decide (ws.length = ks.length) && (ws.zip ks).all fun p => kindB p.2 p.1
def readD (k z : Str) : PyData := if k = "N" ∨ k = "M" then .int ((PySem.intText? z).getD 0) else .str z
theorem readD_to (k z : Str) : tupOnly (readD k z) = true := by
  unfold readD
  split <;> rfl
def readW (row : Str) (fs : List (List Str)) : PyData := match fs.find? (formB (Txt.split row " ")) with
  | some f => .tuple (((Txt.split row " ").zip f).map fun p => readD p.2 p.1)
  | none => .none
def spWordFits (K : PySem.W.Frag) : Sp := fun vs H Q _ => ∃ z k : Str, vs = [.str z, .str k] ∧ z.cps.size ≤ 40000 ∧ ∀ H', Ex H H' → Q (.bl (kindB k z)) H'
def spHasForm (K : PySem.W.Frag) : Sp := fun vs H Q _ => ∃ (a b : Addr) (ws ks : List Str), vs = [.ref a, .ref b] ∧ H a = some (.lst (ws.map V.str)) ∧ SqT K H b (ks.map V.str) ∧ ws.length ≤ 40000 ∧ ks.length ≤ 100 ∧ (∀ z ∈ ws, z.cps.size ≤ 40000) ∧ ∀ H', Ex H H' → Q (.bl (formB ws ks)) H'
def spReadWord (K : PySem.W.Frag) : Sp := fun vs H Q _ => ∃ z k : Str, vs = [.str z, .str k] ∧ kindB k z = true ∧ ∀ v H', Ex H H' → Dy K H' v (readD k z) → Q v H'
def spReadWords (K : PySem.W.Frag) : Sp := fun vs H Q _ => ∃ (row : Str) (c : Addr) (fs : List (List Str)), vs = [.str row, .ref c] ∧ Dy K H (.ref c) (formsD fs) ∧ row.length ≤ 30000 ∧ fs.length ≤ 100 ∧ (∀ f ∈ fs, f.length ≤ 100) ∧ ∀ v H', Ex H H' → Dy K H' v (readW row fs) → Q v H'
section
variable {P : Program} {w : World} {K : PySem.W.Frag} {mg : Str → Option Value} {base : Heap}
/-- which promise goes with which def of the table -/
def kindS (T : Tp w K mg) : Addr → Option Sp := fun f =>
  if f = T.f_is_letters then some (spLetters K) else if f = T.f_is_number then some (spNumber K) else if f = T.f_is_signed then some (spSigned K) else none
theorem kind_l (T : Tp w K mg) : kindS T T.f_is_letters = some (spLetters K) := if_pos rfl
theorem kind_n (T : Tp w K mg) : kindS T T.f_is_number = some (spNumber K) := by
  have n := T.ndK
  simp only [List.nodup_cons, List.mem_cons, List.not_mem_nil, or_false, not_or] at n
  unfold kindS
  rw [if_neg (fun z => n.1.1 z.symm), if_pos rfl]
theorem kind_m (T : Tp w K mg) : kindS T T.f_is_signed = some (spSigned K) := by
  have n := T.ndK
  simp only [List.nodup_cons, List.mem_cons, List.not_mem_nil, or_false, not_or] at n
  unfold kindS
  rw [if_neg (fun z => n.1.2 z.symm), if_neg (fun z => n.2.1 z.symm), if_pos rfl]
theorem kindHeld (T : Tp w K mg) : ∀ f sp, kindS T f = some sp → Held P w K mg base 2 f sp := by
  intro f sp h
  unfold kindS at h
  split at h
  · rename_i e; subst e; cases h; exact ⟨_, _, (ok_is_letters T).mono (by decide), T.F_is_letters.kp, b_is_letters T⟩
  split at h
  · rename_i e; subst e; cases h; exact ⟨_, _, (ok_is_number T).mono (by decide), T.F_is_number.kp, b_is_number T⟩
  split at h
  · rename_i e; subst e; cases h; exact ⟨_, _, (ok_is_signed T).mono (by decide), T.F_is_signed.kp, b_is_signed T⟩
  cases h
theorem ok_word_fits_forms (T : Tp w K mg) : FnOk P w K mg base CX0 3 T.f_word_fits_forms T.d_word_fits_forms ["word", "kind"] (spWordFits K) := by
  refine T.F_word_fits_forms.ok sc_word_fits_forms (fun vs H Q E h => ?_) (fun cdv A outer s H vs Q E hr h => ?_)
  · obtain ⟨z, k, rfl, _⟩ := h
    rfl
  obtain ⟨z, k, rfl, hz, q⟩ := h
  refine ⟨_, (pss_cons (ps_if (pt_cmpR op_notInK (pv 1) (pe_glob (v := .ref T.a_KINDS) rfl T.c_KINDS rfl) (by with_unfolding_all rfl)) (pss_one (ps_ret (pe_cmpR op_eq (pv 0) (pv 1) (nomark _)))) pss_nil)
  (pss_cons (ps_set (i := 2) sc_word_fits_forms.nd rfl (Or.inl rfl) (pe_ix ix_kdict (pe_glob (v := .ref T.a_KINDS) rfl T.c_KINDS rfl) (pv 1) (fun _ _ => rfl)))
  (pss_one (ps_ret (pe_callA (S := kindS T) (kindHeld T) (hr.mono (by decide)) (i := 2) rfl (Or.inl rfl) (pa_cons (pv 0) pa_nil (star1 rfl)) (by decide) (by decide) (star1 rfl) (starAll rfl)))))), ?_⟩
  refine s_if (et_test (ev_op (ev_var rfl) ev_c (rv_notInK T.D_KINDS))) (fun h1 H3 e3 => ?_) (fun h1 H3 e3 => ?_)
  · have n1 : k ≠ "NAME" := fun z => by rw [if_pos z] at h1; cases h1
    have n2 : k ≠ "N" := fun z => by rw [if_neg n1, if_pos z] at h1; cases h1
    have n3 : k ≠ "M" := fun z => by rw [if_neg n1, if_neg n2, if_pos z] at h1; cases h1
    refine s_ret (ev_eq (ev_var rfl) (ev_var rfl) rfl) fun H4 e4 => ?_
    have e : decide (V.str z = V.str k) = kindB k z := by
      unfold kindB
      rw [if_neg n1, if_neg n2, if_neg n3]
      exact decide_eq_decide.mpr ⟨fun h => by injection h, fun h => by rw [h]⟩
    rw [e]
    exact q H4 (e3.trans e4)
  · have up : ∀ {f sp}, (if k = "NAME" then some (Value.ref T.f_is_letters) else if k = "N" then some (.ref T.f_is_number) else if k = "M" then some (.ref T.f_is_signed) else none) = some (.ref f) → kindS T f = some sp → (∀ H1, Ex H H1 → SpV sp [.str z] H1 (.bl (kindB k z))) → tSeq (tAsg (tOp (rIxD K w) (tC (.ref T.a_KINDS)) (tVar 1)) (gName 2)) (tRet (tCallA 2 (kindS T) (tCons (tVar 0) tNil))) { nx := fun _ H' => Q .non H', rt := Q } (L2.start N_word_fits_forms [.str z, .str k]) H3 := by
      intro f sp hf hh hs
      refine s_asg (v := .ref f) (ev_op ev_c (ev_var rfl) (rv_ixD T.D_KINDS hf)) fun H4 e4 => ?_
      exact s_ret (ev_callA (f := f) (sp := sp) (z := .bl (kindB k z)) rfl hh (ea_cons (ev_var rfl) ea_nil) (hs H4 (e3.trans e4))) fun H5 e5 => q H5 (e3.trans (e4.trans e5))
    by_cases n1 : k = "NAME"
    · refine up (f := T.f_is_letters) (by rw [if_pos n1]) (kind_l T) fun H1 e1 H6 e6 Q' q' E' => ⟨z, rfl, hz, ?_⟩
      unfold kindB at q'
      rw [if_pos n1] at q'
      exact q'
    by_cases n2 : k = "N"
    · refine up (f := T.f_is_number) (by rw [if_neg n1, if_pos n2]) (kind_n T) fun H1 e1 H6 e6 Q' q' E' => ⟨z, rfl, hz, ?_⟩
      unfold kindB at q'
      rw [if_neg n1, if_pos n2] at q'
      exact q'
    by_cases n3 : k = "M"
    · refine up (f := T.f_is_signed) (by rw [if_neg n1, if_neg n2, if_pos n3]) (kind_m T) fun H1 e1 H6 e6 Q' q' E' => ⟨z, rfl, hz, ?_⟩
      unfold kindB at q'
      rw [if_neg n1, if_neg n2, if_pos n3] at q'
      exact q'
    · simp only [if_neg n1, if_neg n2, if_neg n3] at h1
      cases h1
theorem ok_has_form (T : Tp w K mg) : FnOk P w K mg base CX0 4 T.f_has_form T.d_has_form ["words", "form"] (spHasForm K) := by
  refine T.F_has_form.ok sc_has_form (fun vs H Q E h => ?_) (fun cdv A outer s H vs Q E hr h => ?_)
  · obtain ⟨a, b, ws, ks, rfl, _⟩ := h
    rfl
  obtain ⟨a, b, ws, ks, rfl, hS, hT, wl, kl, wz, q⟩ := h
  refine ⟨_, (pss_cons (ps_if (pt_cmpR op_ne (pe_callB (lenK (K := K) rfl) rfl T.z_len PySem.boot_len (pa_cons (pv 0) pa_nil (star1 rfl)) (by decide) (by decide) (star1 rfl) (starAll rfl)) (pe_callB (lenK (K := K) rfl) rfl T.z_len PySem.boot_len (pa_cons (pv 1) pa_nil (star1 rfl)) (by decide) (by decide) (star1 rfl) (starAll rfl)) (nomark _)) (pss_one (ps_ret pe_bl)) pss_nil)
  (pss_one (ps_ret (pe_callB (allK (K := K) rfl rfl) rfl T.z_all (by decide +kernel) (pa_cons (pe_lc (own := [("word", 2), ("kind", 3)]) (g := gTup K 2 (gCons (gName 2) (gCons (gName 3) gNil))) (tt := tYes) rfl sc_has_form.nd (pi_zipN (K := K) rfl rfl T.z_zip (pa_cons (pv 0) (pa_cons (pv 1) pa_nil (star1 rfl)) (star1 rfl))) (blkOk_by (N := N_has_form) (sc := defScope s_has_form) (by decide +kernel)) (fun _ _ _ _ _ => (pg_tup rfl (pgs_cons (pg_name (i := 2) sc_has_form.nd rfl (Or.inl rfl)) (pgs_cons (pg_name (i := 3) sc_has_form.nd rfl (Or.inl rfl)) pgs_nil)))) (fun _ _ _ _ _ => pts_nil) (fun _ _ _ _ _ => (pe_call (ok_word_fits_forms T) (hr.mono (by decide)) rfl T.m_word_fits_forms T.F_word_fits_forms.kp (b_word_fits_forms T) .nil pass0 (pa_cons (pv 2) (pa_cons (pv 3) pa_nil (star1 rfl)) (star1 rfl)) (by decide) (star1 rfl) (starAll rfl)))) pa_nil (star1 rfl)) (by decide) (by decide) (star1 rfl) (starAll rfl))))), ?_⟩
  refine s_if (et_test (ev_op (ev_len (ev_var rfl) (sq_of hS)) (ev_lenT (ev_var rfl) hT) fun H1 e1 Q1 q1 => ⟨rfl, q1 H1 (Ex.refl H1)⟩)) (fun h1 H1 e1 => ?_) (fun h1 H1 e1 => ?_)
  · refine s_ret ev_c fun H2 e2 => ?_
    have q2 := q H2 (e1.trans e2)
    have : ws.length ≠ ks.length := fun z => by
      simp [z] at h1
    unfold formB at q2
    rw [decide_eq_false this] at q2
    exact q2
  · have hl : ws.length = ks.length := by
      by_cases z : ws.length = ks.length
      · exact z
      · simp [z] at h1
        omega
    refine nx_tn (nx_mkW (s_ret (ev_allD (K := K) (bs := (ws.zip ks).map fun p => kindB p.2 p.1) ?_) fun H2 e2 => ?_))
    · rw [List.map_map]
      have hT1 := ex_t e1 hT
      refine DL.lcN (g := fun p => .bool (kindB p.2 p.1)) (ws := ws) (ks := ks) (DL.v rfl (e1 _ _ hS) (dya_of_strs ws)) (DE.of (ev_var rfl) (.tup hT1 (dya_of_strs ks))) hl (by omega) (fun _ => rfl) (fun _ _ => rfl) (fun x y H2 e2 hm => DE.bl (ev_call (ea_cons (ev_var rfl) (ea_cons (ev_var rfl) ea_nil)) fun H3 e3 Q3 q3 E3 => ⟨x, y, rfl, wz x (List.of_mem_zip hm).1, q3⟩))
    · have q2 := q H2 (e1.trans e2)
      unfold formB at q2
      rw [decide_eq_true hl, Bool.true_and] at q2
      rw [List.all_map]
      exact q2
theorem ok_read_word (T : Tp w K mg) : FnOk P w K mg base CX0 1 T.f_read_word T.d_read_word ["word", "kind"] (spReadWord K) := by
  refine T.F_read_word.ok sc_read_word (fun vs H Q E h => ?_) (fun cdv A outer s H vs Q E hr h => ?_)
  · obtain ⟨z, k, rfl, _⟩ := h
    rfl
  obtain ⟨z, k, rfl, hk, q⟩ := h
  refine ⟨_, (pss_one (ps_ret (pe_ifExp (pt_cmpR (inSK (K := K) rfl) (pv 1) (pe_tup (pa_cons pe_str (pa_cons pe_str pa_nil (star1 rfl)) (star1 rfl))) (by with_unfolding_all rfl)) (pe_callTy call_int_str rfl T.z_int (by decide +kernel) (pa_cons (pv 0) pa_nil (star1 rfl)) (by decide) (by decide) (star1 rfl) (starAll rfl)) (pv 0)))), ?_⟩
  refine if_raw (tst_raw ⟨_, rfl, (by show 2 ≤ sizeLine; decide), fun p hp => ⟨p, _, rfl, Or.inr (st_of upd_same), rfl, rfl, _, rfl, ?_⟩⟩)
  have e1 := Ex.new (o := .tup [.str "N", .str "M"]) hp
  by_cases c : k = "N" ∨ k = "M"
  · obtain ⟨⟨n, hn⟩, hl⟩ : (∃ n : Int, PySem.intText? z = some n) ∧ z.length ≤ 10 := by
      rcases c with rfl | rfl
      · obtain ⟨n, h⟩ := num_int (z := z) hk
        exact ⟨⟨_, h⟩, by have := (num_len (z := z) hk).2.1; omega⟩
      · exact sign_int (z := z) hk
    refine iteT' (by rcases c with rfl | rfl <;> rfl) ⟨_, rfl, z, n, rfl, hn, by omega, ?_⟩
    refine q _ _ e1 ?_
    unfold readD
    rw [if_pos c, hn]
    exact .int n
  · refine iteF' ?_ ⟨_, rfl, ?_⟩
    · have h1 : k ≠ "N" := fun z => c (Or.inl z)
      have h2 : k ≠ "M" := fun z => c (Or.inr z)
      have i1 : decide (V.str k = V.str "N") = false := decide_eq_false fun w => h1 (by injection w)
      have i2 : decide (V.str k = V.str "M") = false := decide_eq_false fun w => h2 (by injection w)
      show inV (V.str k) [V.str "N", V.str "M"] = false
      simp [inV, eqV]
      exact ⟨fun z => h1 z.symm, fun z => h2 z.symm⟩
    · refine q _ _ e1 ?_
      unfold readD
      rw [if_neg c]
      exact .str z
theorem ok_read_words (T : Tp w K mg) : FnOk P w K mg base CX0 5 T.f_read_words T.d_read_words ["row", "forms"] (spReadWords K) := by
  refine T.F_read_words.ok sc_read_words (fun vs H Q E h => ?_) (fun cdv A outer s H vs Q E hr h => ?_)
  · obtain ⟨row, c, fs, rfl, _⟩ := h
    rfl
  obtain ⟨row, c, fs, rfl, hf, rl, fl, fl2, q⟩ := h
  refine ⟨_, (pss_cons (ps_set (i := 2) sc_read_words.nd rfl (Or.inl rfl) (pe_split (pv 0) pe_str))
  (pss_cons (ps_for PassesOwn.never rfl (piTK (K := K) rfl (pv 1)) (pg_name (i := 3) sc_read_words.nd rfl (Or.inl rfl)) (pss_one (ps_if (pt_val (pe_call (ok_has_form T) (hr.mono (by decide)) rfl T.m_has_form T.F_has_form.kp (b_has_form T) .nil pass0 (pa_cons (pv 2) (pa_cons (pv 3) pa_nil (star1 rfl)) (star1 rfl)) (by decide) (star1 rfl) (starAll rfl))) (pss_one (ps_ret (pe_callTy (call_tupF (K := K) rfl) rfl T.z_tuple (by decide +kernel) (pa_cons (pe_lc (own := [("word", 4), ("kind", 5)]) (g := gTup K 2 (gCons (gName 4) (gCons (gName 5) gNil))) (tt := tYes) rfl sc_read_words.nd (pi_zipN (K := K) rfl rfl T.z_zip (pa_cons (pv 2) (pa_cons (pv 3) pa_nil (star1 rfl)) (star1 rfl))) (blkOk_by (N := N_read_words) (sc := defScope s_read_words) (by decide +kernel)) (fun _ _ _ _ _ => (pg_tup rfl (pgs_cons (pg_name (i := 4) sc_read_words.nd rfl (Or.inl rfl)) (pgs_cons (pg_name (i := 5) sc_read_words.nd rfl (Or.inl rfl)) pgs_nil)))) (fun _ _ _ _ _ => pts_nil) (fun _ _ _ _ _ => (pe_call (ok_read_word T) (hr.mono (by decide)) rfl T.m_read_word T.F_read_word.kp (b_read_word T) .nil pass0 (pa_cons (pv 4) (pa_cons (pv 5) pa_nil (star1 rfl)) (star1 rfl)) (by decide) (star1 rfl) (starAll rfl)))) pa_nil (star1 rfl)) (by decide) (by decide) (star1 rfl) (starAll rfl)))) pss_nil)))
  (pss_one (ps_ret pe_non)))), ?_⟩
  refine q_asgP ?_
  refine ⟨_, rfl, ⟨row, rfl⟩, row, " ", rfl, rfl, by decide, Nat.le_trans (show row.length + 2 ≤ 30002 by omega) (by decide), fun p hp => ?_⟩
  have e1 := Ex.new (o := .lst ((Txt.split row " ").map V.str)) hp
  have hp1 : upd H p (.lst ((Txt.split row " ").map V.str)) p = some (.lst ((Txt.split row " ").map V.str)) := upd_same
  generalize upd H p (.lst ((Txt.split row " ").map V.str)) = H1 at e1 hp1 ⊢
  have wl : (Txt.split row " ").length ≤ 40000 := by
    have := split_many row (y := " ") rfl
    omega
  have wz : ∀ z ∈ Txt.split row " ", z.cps.size ≤ 40000 := fun z hz => by
    have : z.cps.size ≤ row.length := split_part hz
    omega
  cases hf with
  | tup hs ha =>
    rename_i xs
    refine q_forU ?_
    refine ⟨_, rfl, c, rfl, ⟨_, ex_t e1 hs⟩, ?_⟩
    refine tup_turnsN (K := K) (a := c) (xs := xs) (fun i σ' H' => Ex H1 H' ∧ (∀ f ∈ fs.take i, formB (Txt.split row " ") f = false) ∧ ∃ c3, σ' = [some (.str row), some (.ref c), some (.ref p), c3, none, none]) ⟨Ex.refl H1, fun f hf => by simp at hf, _, rfl⟩ (fun i σ' H' _ hP => ex_t (e1.trans hP.1) hs) ?_ ?_
    · rintro i x σ' H2 hx ⟨e2, no, c3, rfl⟩
      obtain ⟨d, h1, h2⟩ := dya_get (dya_mono (e1.trans e2) ha) hx
      rw [List.getElem?_map] at h1
      obtain ⟨f, hf, rfl⟩ := Option.map_eq_some_iff.mp h1
      cases h2 with
      | tup hs2 ha2 =>
        obtain rfl := dya_strs ha2
        have fm := List.mem_of_getElem? hf
        refine s_ifP (tB_raw ?_)
        refine ⟨_, rfl, _, rfl, p, _, _, f, rfl, e2 _ _ hp1, hs2, wl, fl2 f fm, wz, fun H3 e3 => ⟨_, rfl, ?_⟩⟩
        by_cases hb : formB (Txt.split row " ") f = true
        · refine iteT' hb (s_retP ?_)
          have hl : (Txt.split row " ").length = f.length := by
            unfold formB at hb
            rw [Bool.and_eq_true] at hb
            exact of_decide_eq_true hb.1
          have hk : ∀ x y, (x, y) ∈ (Txt.split row " ").zip f → kindB y x = true := fun x y hm => by
            unfold formB at hb
            rw [Bool.and_eq_true, List.all_eq_true] at hb
            exact hb.2 _ hm
          have hrd : readW row fs = .tuple (((Txt.split row " ").zip f).map fun p => readD p.2 p.1) := by
            have : fs.find? (formB (Txt.split row " ")) = some f := by
              rw [List.find?_eq_some_iff_getElem]
              obtain ⟨il, ie⟩ := List.getElem?_eq_some_iff.mp hf
              refine ⟨hb, i, il, ie, fun j hj => ?_⟩
              have := no fs[j] (List.mem_take_iff_getElem.mpr ⟨j, by omega, rfl⟩)
              rw [this]
              rfl
            unfold readW
            rw [this]
          refine DE.ofL (DL.lcN (K := K) (g := fun p => readD p.2 p.1) (DL.v rfl ((e2.trans e3) _ _ hp1) (dya_of_strs _)) (DE.of (ev_var rfl) (.tup (ex_t e3 hs2) (dya_of_strs f))) hl (by have := fl2 f fm; omega) (fun p => readD_to _ _) (fun _ _ => rfl) (fun x y H4 e4 hm => ?_)) H3 _ (Ex.refl H3) fun v H4 e4 dy => ?_
          · exact fun H5 Q5 e5 q5 => ⟨_, rfl, _, rfl, x, y, rfl, hk x y hm, q5⟩
          · have q2 := q v H4 (((e1.trans e2).trans e3).trans e4)
            rw [hrd] at q2
            exact q2 dy
        · refine iteF' (by simpa using hb) (nx_tn ⟨e2.trans e3, fun g hg => ?_, _, rfl⟩)
          rw [take_oneS hf] at hg
          rcases List.mem_append.mp hg with hg | hg
          · exact no g hg
          · rw [List.mem_singleton.mp hg]
            simpa using hb
    · rintro σ' H2 ⟨e2, no, c3, rfl⟩
      refine s_retP ?_
      have : readW row fs = .none := by
        unfold readW
        rw [List.take_of_length_le (by rw [dya_ln ha, List.length_map]; exact Nat.le_refl _)] at no
        rw [List.find?_eq_none.mpr (fun f hf => by rw [no f hf]; exact Bool.false_ne_true)]
      have q2 := q .non H2 (e1.trans e2)
      rw [this] at q2
      exact q2 .non
end
/-! ### plans and books written -/
theorem strISK {X : Cx} : CallR X (.type "str") (fun xs H Q => (∃ i, xs = [.int i] ∧ i.natAbs.log2 < 1920 ∧ Q (.str (toString i)) H) ∨ ∃ a, xs = [.str a] ∧ Q (.str a) H) := by
  intro pins s σ H xs us Q I r h
  rcases h with h | h
  · exact call_str_int pins s σ H xs us Q I r h
  · exact SkE.call_str_str pins s σ H xs us Q I r h
def prgR (n : Str) : Str := Txt.join " " ["program", n]
def partS : PyData → Str
  | .str x => x
  | .int i => numS i
  | _ => Str.empty
def notNone : PyData → Bool
  | .none => false
  | _ => true
def rowR (ds : List PyData) : Str := Txt.join " " ((ds.filter notNone).map partS)
theorem two_eq {w0 : Str} (h n : Str) (hs : TL.tl Str.empty ++ TL.tl h = TL.tl w0 ++ TL.tl " ") : Str.empty ++ h ++ n = Txt.join " " [w0, n] := by
  rw [TL.join_eq]
  refine TL.ext_tl ?_
  show TL.tl _ = TL.tl (w0 ++ " " ++ n)
  rw [TL.tl_append, TL.tl_append, TL.tl_append, TL.tl_append, hs]
/-! ### plans, rows, books written whole -/
def bookD (bk : List (Str × List (List PyData))) : PyData := .tuple (bk.map fun p => .tuple [.str p.1, .tuple (p.2.map PyData.tuple)])
def bkRows (bk : List (Str × List (List PyData))) : List Str := bk.flatMap fun p => prgR p.1 :: p.2.map rowR
def bookText (bk : List (Str × List (List PyData))) : Str := Txt.join "\n" (bkRows bk)
structure RwOk (k : Nat) (ds : List PyData) : Prop where
  fl : ds.all flat0 = true
  ft : rowFits (.tuple ds) k = true
  ln : ds.length ≤ 3
structure BkOk (bk : List (Str × List (List PyData))) : Prop where
  ln : bk.length ≤ 64
  nm : ∀ p ∈ bk, nameOk p.1
  pl : ∀ p ∈ bk, p.2.length ≤ 40
  rw_ : ∀ p ∈ bk, ∀ ds ∈ p.2, RwOk p.2.length ds
theorem take_inv {x : PyData} {ds : List PyData} (h : takeFits (x :: ds) = true) : ds = [.none] ∨ ∃ i, ds = [.int i] ∧ 0 ≤ i := by
  unfold takeFits at h
  split at h
  · rename_i e
    cases e
    exact Or.inl rfl
  · rename_i d _ e
    cases e
    cases d <;> simp [wholeFrom] at h
    exact Or.inr ⟨_, rfl, h⟩
  · cases h
theorem word_inv {x : PyData} {ds : List PyData} (h : wordFits (x :: ds) = true) : ds = [] := by
  unfold wordFits at h
  have := of_decide_eq_true h
  rw [List.length_cons] at this
  exact List.length_eq_zero_iff.mp (by omega)
theorem say_inv {x : PyData} {ds : List PyData} (h : sayFits (x :: ds) = true) : ∃ i, ds = [.int i] := by
  unfold sayFits at h
  split at h
  · rename_i e
    cases e
    exact ⟨_, rfl⟩
  · cases h
theorem goto_inv {x : PyData} {ds : List PyData} {many : Int} (h : gotoFits (x :: ds) many = true) : ∃ i, ds = [.int i] ∧ 0 ≤ i ∧ i < many := by
  unfold gotoFits at h
  split at h
  · rename_i d e
    cases e
    cases d <;> simp [rowNum] at h
    exact ⟨_, rfl, h.1, h.2⟩
  · cases h
theorem if_inv {x : PyData} {ds : List PyData} {many : Int} (h : ifFits (x :: ds) many = true) : ∃ a i, ds = [.int a, .int i] ∧ 0 ≤ i ∧ i < many := by
  unfold ifFits at h
  split at h
  · rename_i d f e
    cases e
    rw [Bool.and_eq_true] at h
    obtain ⟨h1, h2⟩ := h
    cases d <;> simp [isWhole] at h1
    cases f <;> simp [rowNum] at h2
    exact ⟨_, _, rfl, h2.1, h2.2⟩
  · cases h
theorem flat_int {i : Int} (h : flat0 (.int i) = true) : i.natAbs.log2 < 1920 ∧ (numS i).length ≤ 60 := by
  simp only [flat0, Bool.and_eq_true, decide_eq_true_eq] at h
  refine ⟨?_, ?_⟩
  · by_cases z : i.natAbs = 0
    · rw [z]
      decide
    · have := (Nat.log2_lt z (k := 32)).mpr (by omega)
      omega
  · have := (text_facts (B := 4000000000) (by decide) (.int i) (by simp only [okD]; omega)).2.1
    simp only [wt] at this
    have e : (numS i).length = (PyData.int i).shown.length := rfl
    omega
theorem part_len {d : PyData} (h : flat0 d = true) : (partS d).length ≤ 60 := by
  cases d with
  | str x =>
    simp only [flat0, Bool.and_eq_true, decide_eq_true_eq] at h
    show x.length ≤ 60
    omega
  | int i => exact (flat_int h).2
  | _ => first | exact Nat.zero_le _ | decide
theorem row_len {k : Nat} {ds : List PyData} (ok : RwOk k ds) : (rowR ds).length ≤ 200 := by
  have h1 := sum_len (B := 60) (ys := (ds.filter notNone).map partS) fun y hy => by
    obtain ⟨d, hd, rfl⟩ := List.mem_map.mp hy
    exact part_len (List.all_eq_true.mp ok.fl d (List.mem_filter.mp hd).1)
  have h2 := List.length_filter_le notNone ds
  have h3 := ok.ln
  have e1 : (" " : Str).length = 1 := by decide +kernel
  have h4 := StrLaws.join_length_le " " ((ds.filter notNone).map partS)
  rw [e1] at h4
  rw [List.length_map] at h1 h4
  unfold rowR
  rw [TL.join_eq]
  omega
theorem flat_b {i : Int} (h : flat0 (.int i) = true) : -100000000 ≤ i ∧ i ≤ 100000000 := by
  simp only [flat0, Bool.and_eq_true, decide_eq_true_eq] at h
  exact h
theorem row_cases {k : Nat} {ds : List PyData} (ok : RwOk k ds) : ds = [.str "take", .none] ∨ (∃ i : Int, ds = [.str "take", .int i] ∧ 0 ≤ i ∧ i ≤ 100000000) ∨ ds = [.str "try"] ∨ ds = [.str "let"] ∨ (∃ i : Int, ds = [.str "say", .int i] ∧ 0 ≤ i ∧ i ≤ 100000000) ∨ (∃ i : Int, ds = [.str "goto", .int i] ∧ 0 ≤ i ∧ i ≤ 100000000) ∨ ∃ a i : Int, ds = [.str "if", .int a, .int i] ∧ (-100000000 ≤ a ∧ a ≤ 100000000) ∧ 0 ≤ i ∧ i ≤ 100000000 := by
  have h := ok.ft
  have fl : ∀ d ∈ ds, flat0 d = true := fun d hd => List.all_eq_true.mp ok.fl d hd
  unfold rowFits at h
  split at h
  rotate_left
  · cases h
  rename_i z es e
  cases e
  by_cases n1 : z = "take"
  · rw [if_pos n1] at h
    subst n1
    rcases take_inv h with e | ⟨i, e, hi⟩
    · subst e
      exact Or.inl rfl
    · subst e
      exact Or.inr (Or.inl ⟨i, rfl, hi, (flat_b (fl (.int i) (by simp))).2⟩)
  rw [if_neg n1] at h
  by_cases n2 : z = "try"
  · rw [if_pos n2] at h
    subst n2
    have e := word_inv h
    subst e
    exact Or.inr (Or.inr (Or.inl rfl))
  rw [if_neg n2] at h
  by_cases n3 : z = "let"
  · rw [if_pos n3] at h
    subst n3
    have e := word_inv h
    subst e
    exact Or.inr (Or.inr (Or.inr (Or.inl rfl)))
  rw [if_neg n3] at h
  by_cases n4 : z = "say"
  · rw [if_pos n4] at h
    subst n4
    obtain ⟨i, e⟩ := say_inv h
    subst e
    have h0 : 0 ≤ i := by
      simp only [sayFits, Bool.and_eq_true, decide_eq_true_eq] at h
      omega
    exact Or.inr (Or.inr (Or.inr (Or.inr (Or.inl ⟨i, rfl, h0, (flat_b (fl (.int i) (by simp))).2⟩))))
  rw [if_neg n4] at h
  by_cases n5 : z = "goto"
  · rw [if_pos n5] at h
    subst n5
    obtain ⟨i, e, h0, _⟩ := goto_inv h
    subst e
    exact Or.inr (Or.inr (Or.inr (Or.inr (Or.inr (Or.inl ⟨i, rfl, h0, (flat_b (fl (.int i) (by simp))).2⟩)))))
  rw [if_neg n5] at h
  by_cases n6 : z = "if"
  · rw [if_pos n6] at h
    subst n6
    obtain ⟨a, i, e, h0, _⟩ := if_inv h
    subst e
    exact Or.inr (Or.inr (Or.inr (Or.inr (Or.inr (Or.inr ⟨a, i, rfl, flat_b (fl (.int a) (by simp)), h0, (flat_b (fl (.int i) (by simp))).2⟩)))))
  rw [if_neg n6] at h
  cases h
theorem no_bool {k : Nat} {ds : List PyData} {b : Bool} (ok : RwOk k ds) (h : PyData.bool b ∈ ds) : False := by
  rcases row_cases ok with rfl | ⟨i, rfl, _⟩ | rfl | rfl | ⟨i, rfl, _⟩ | ⟨i, rfl, _⟩ | ⟨a, i, rfl, _⟩ <;> simp at h
theorem bk_take : ∀ (bk : List (Str × List (List PyData))) (i : Nat) (p : Str × List (List PyData)), bk[i]? = some p → bkRows (bk.take (i + 1)) = bkRows (bk.take i) ++ (prgR p.1 :: p.2.map rowR) := fun bk i p h => by
  unfold bkRows
  rw [take_oneS h, List.flatMap_append]
  simp
theorem bk_len {bk : List (Str × List (List PyData))} (ok : BkOk bk) (i : Nat) : (bkRows (bk.take i)).length ≤ 64 * 41 := by
  have : ∀ l : List (Str × List (List PyData)), (∀ p ∈ l, p.2.length ≤ 40) → (bkRows l).length ≤ l.length * 41 := by
    intro l
    induction l with
    | nil => intro _; simp [bkRows]
    | cons p l ih =>
      intro h
      have h1 := h p (by simp)
      have h2 := ih fun q hq => h q (List.mem_cons_of_mem _ hq)
      show ((prgR p.1 :: p.2.map rowR) ++ bkRows l).length ≤ _
      rw [List.length_append, List.length_cons, List.length_map, List.length_cons]
      omega
  have h1 := this (bk.take i) fun p hp => ok.pl p (List.mem_of_mem_take hp)
  have h2 : (bk.take i).length ≤ 64 := by
    rw [List.length_take]
    have := ok.ln
    omega
  omega
theorem bk_each {bk : List (Str × List (List PyData))} (ok : BkOk bk) : ∀ y ∈ bkRows bk, y.length ≤ 200 := by
  intro y hy
  obtain ⟨p, hp, hy⟩ := List.mem_flatMap.mp hy
  rcases List.mem_cons.mp hy with rfl | hy
  · have := (ok.nm p hp).2.1
    have h4 := StrLaws.join_length_le " " ["program", p.1]
    have e1 : (" " : Str).length = 1 := by decide +kernel
    have e2 : ("program" : Str).length = 7 := by decide +kernel
    simp only [List.map_cons, List.map_nil, List.sum_cons, List.sum_nil, List.length_cons, List.length_nil, e1, e2] at h4
    unfold prgR
    rw [TL.join_eq]
    omega
  · obtain ⟨ds, hd, rfl⟩ := List.mem_map.mp hy
    exact row_len (ok.rw_ p hp ds hd)
theorem bk_sum {bk : List (Str × List (List PyData))} (ok : BkOk bk) : ((bkRows bk).map (·.length)).sum + (bkRows bk).length * ("\n" : Str).length ≤ 16777216 := by
  have h1 := sum_len (B := 200) (bk_each ok)
  have h2 := bk_len ok bk.length
  rw [List.take_length] at h2
  have e1 : ("\n" : Str).length = 1 := by decide +kernel
  rw [e1]
  omega
theorem rows_to {rs : List (List PyData)} {k : Nat} (h : ∀ ds ∈ rs, RwOk k ds) : tupOnly (.tuple (rs.map PyData.tuple)) = true := by
  refine tos_mem fun d hd => ?_
  obtain ⟨ds, hds, rfl⟩ := List.mem_map.mp hd
  refine tos_mem fun e he => ?_
  have := List.all_eq_true.mp (h ds hds).fl e he
  cases e <;> first | rfl | cases this
/-! ### plans read -/
def nmFree (s : Nat) (n : Str) : Prop := s ∉ TL.tl n
theorem name_free {n : Str} (h : nameOk n) : nmFree 32 n ∧ nmFree 10 n := ⟨fun m => by have := h.2.2 _ m; omega, fun m => by have := h.2.2 _ m; omega⟩
theorem num_kind {b : Int} (h : 0 ≤ b ∧ b ≤ 999999999) : kindB "N" (numS b) = true ∧ readD "N" (numS b) = .int b ∧ nmFree 32 (numS b) ∧ nmFree 10 (numS b) := by
  obtain ⟨k, rfl⟩ : ∃ k : Nat, b = k := ⟨b.toNat, by omega⟩
  have hk : k < 10 ^ 9 := by omega
  refine ⟨?_, ?_, numS_no (by omega), numS_no (by omega)⟩
  · unfold kindB
    rw [if_neg (by decide), if_pos rfl]
    exact numS_ok hk
  · unfold readD
    rw [if_pos (Or.inl rfl), numS_int hk]
    rfl
theorem lit_read {k z : Str} (h2 : k ≠ "N") (h3 : k ≠ "M") : readD k z = .str z := by
  unfold readD
  rw [if_neg (fun h => h.elim h2 h3)]
theorem free_join {ws : List Str} (h : ∀ z ∈ ws, nmFree 10 z) : nmFree 10 (Txt.join " " ws) := by
  rw [TL.join_eq]
  unfold nmFree at h ⊢
  induction ws with
  | nil => decide +kernel
  | cons x r ih =>
    cases r with
    | nil => exact h x (by simp)
    | cons y r =>
      have i1 := ih fun z hz => h z (List.mem_cons_of_mem _ hz)
      show 10 ∉ TL.tl (x ++ " " ++ Str.join " " (y :: r))
      rw [TL.tl_append, TL.tl_append, List.mem_append, List.mem_append]
      intro k
      rcases k with (k | k) | k
      · exact h x (by simp) k
      · exact absurd k (by decide +kernel)
      · exact i1 k
/-! ### books read: rows -/
theorem neg_tl (k : Nat) : (numS (-((k : Int) + 1))).cps.toList = 45 :: TL.numL (k + 1) := by
  have e : (-((k : Int) + 1)) = Int.negSucc k := by omega
  unfold numS
  rw [e, PySem.Str.ofString_eq_toList]
  have h : toString (Int.negSucc k) = "-" ++ toString (k + 1) := rfl
  rw [h]
  have n := TL.tl_num (k + 1)
  rw [PySem.Str.ofString_eq_toList] at n
  have n : ((toString (k + 1)).toList.map Char.toNat) = TL.numL (k + 1) := by
    simp
    rfl
  simp only [String.toList_append, List.map_append, n]
  rfl
open TL in
theorem tail_tl {z : Str} {c : Nat} {cs : List Nat} (hz : z.cps.toList = c :: cs) : (tailS z).cps.toList = cs := by
  have zl : z.length = cs.length + 1 := by rw [len_tl, show tl z = c :: cs from hz]; rfl
  unfold tailS cutS
  rw [show (⟨((z.cps.toList.drop (HT.sIx z.length 0 (some 1))).take (HT.sIx z.length z.length none - HT.sIx z.length 0 (some 1))).toArray⟩ : Str).cps.toList = (z.cps.toList.drop (HT.sIx z.length 0 (some 1))).take (HT.sIx z.length z.length none - HT.sIx z.length 0 (some 1)) from rfl]
  rw [hz, show HT.sIx z.length 0 (some 1) = 1 from by rw [show (1 : Int) = ((1 : Nat) : Int) from rfl, HT.sIx_nat, zl]; omega, show HT.sIx z.length z.length none = z.length from rfl, zl]
  simp
open TL in
theorem sgn_kind {a : Int} (h : -100000000 ≤ a ∧ a ≤ 100000000) : kindB "M" (numS a) = true ∧ readD "M" (numS a) = .int a ∧ nmFree 32 (numS a) ∧ nmFree 10 (numS a) := by
  have kM : ∀ z, kindB "M" z = signB z := fun z => by
    unfold kindB
    rw [if_neg (by decide), if_neg (by decide), if_pos rfl]
  by_cases h0 : 0 ≤ a
  · obtain ⟨k1, k2, k3, k4⟩ := num_kind (b := a) ⟨h0, by omega⟩
    obtain ⟨k, rfl⟩ : ∃ k : Nat, a = k := ⟨a.toNat, by omega⟩
    refine ⟨?_, ?_, k3, k4⟩
    · rw [kM]
      unfold signB
      rw [if_neg (fun c => ?_)]
      · exact numS_ok (by omega)
      · have hs : (numS (k : Int)).cps.toList[0]? = some 45 := sw_one.mp c
        rw [numS_tl] at hs
        exact numL_free (n := k) (s := 45) (by omega) (List.mem_of_getElem? hs)
    · unfold readD at k2 ⊢
      rw [if_pos (Or.inl rfl)] at k2
      rw [if_pos (Or.inr rfl)]
      exact k2
  · obtain ⟨k, rfl⟩ : ∃ k : Nat, a = -((k : Int) + 1) := ⟨(-a - 1).toNat, by omega⟩
    have ht := neg_tl k
    have hl : (numS (-((k : Int) + 1))).length = (numL (k + 1)).length + 1 := by rw [len_tl, show tl (numS (-((k : Int) + 1))) = 45 :: numL (k + 1) from ht]; rfl
    have l9 : (numL (k + 1)).length ≤ 9 := numL_len (by decide) (by omega)
    have tt : (tailS (numS (-((k : Int) + 1)))).cps.toList = numL (k + 1) := tail_tl ht
    have tn : tailS (numS (-((k : Int) + 1))) = numS ((k + 1 : Nat) : Int) := ext_tl (by rw [show tl (tailS (numS (-((k : Int) + 1)))) = numL (k + 1) from tt, show tl (numS ((k + 1 : Nat) : Int)) = numL (k + 1) from numS_tl (k + 1)])
    have free : ∀ s, s ≠ 45 → (s < 48 ∨ 57 < s) → nmFree s (numS (-((k : Int) + 1))) := fun s n1 n2 m => by
      rw [show tl (numS (-((k : Int) + 1))) = 45 :: numL (k + 1) from ht] at m
      rcases List.mem_cons.mp m with m | m
      · exact n1 m
      · exact numL_free n2 m
    refine ⟨?_, ?_, free 32 (by omega) (by omega), free 10 (by omega) (by omega)⟩
    · rw [kM]
      unfold signB
      have c : Txt.startswith (numS (-((k : Int) + 1))) "-" = true := sw_one.mpr (by rw [ht]; rfl)
      rw [if_pos c, Bool.and_eq_true]
      refine ⟨decide_eq_true fun z => ?_, by rw [tn]; exact numS_ok (by omega)⟩
      have z2 : (numS (-((k : Int) + 1))).cps.toList = [45, 48] := by rw [z]; decide +kernel
      rw [ht] at z2
      have z3 : numL (k + 1) = [48] := (List.cons.inj z2).2
      exact numL_head (k + 1) (by omega) (by rw [z3]; rfl)
    · unfold readD
      rw [if_pos (Or.inr rfl)]
      have := PySem.intText_neg (x := numS (-((k : Int) + 1))) ht (numL_digits (k + 1)) (numL_ne (k + 1)) (by omega)
      rw [this, numL_val]
      show PyData.int (-((k + 1 : Nat) : Int)) = _
      congr 1
def rowW (ds : List PyData) : PyData := match ds with
  | [.str z, .none] => .tuple [.str z]
  | ds => .tuple ds
/-! ### books read: a machine -/
abbrev Pg := Str × List (List PyData)
inductive BT where
  | p (n : Str)
  | r (ds : List PyData)
def BT.txt : BT → Str
  | .p n => prgR n
  | .r ds => rowR ds
def BT.dat : BT → PyData
  | .p n => .tuple [.str "program", .str n]
  | .r ds => rowW ds
def BT.fits : BT → Prop
  | .p n => nameOk n
  | .r ds => ∃ k, k ≤ 40 ∧ RwOk k ds
def bToks (bk : List Pg) : List BT := bk.flatMap fun p => BT.p p.1 :: p.2.map BT.r
theorem btoks_txt (bk : List Pg) : (bToks bk).map BT.txt = bkRows bk := by
  unfold bToks bkRows
  rw [List.map_flatMap]
  congr 1
  funext p
  rw [List.map_cons, List.map_map]
  rfl
theorem btoks_fit {bk : List Pg} (ok : BkOk bk) : ∀ w ∈ bToks bk, w.fits := by
  intro w hw
  obtain ⟨p, hp, hw⟩ := List.mem_flatMap.mp hw
  rcases List.mem_cons.mp hw with rfl | hw
  · exact ok.nm p hp
  · obtain ⟨ds, hd, rfl⟩ := List.mem_map.mp hw
    exact ⟨p.2.length, ok.pl p hp, ok.rw_ p hp ds hd⟩
def stepB (s : List Pg) : BT → List Pg
  | .p n => (n, []) :: s
  | .r ds => match s with
    | [] => []
    | (n, dss) :: r => (n, dss ++ [ds]) :: r
theorem bt_free {w : BT} (h : w.fits) : nmFree 10 w.txt := by
  cases w with
  | p n =>
    refine free_join fun z hz => ?_
    simp only [List.mem_cons, List.not_mem_nil, or_false] at hz
    rcases hz with rfl | rfl
    · unfold nmFree; decide +kernel
    · exact (name_free (show nameOk _ from h)).2
  | r ds =>
    obtain ⟨k, _, ok⟩ := h
    refine free_join fun z hz => ?_
    obtain ⟨d, hd, rfl⟩ := List.mem_map.mp hz
    have hd := (List.mem_filter.mp hd).1
    rcases row_cases ok with rfl | ⟨i, rfl, hi⟩ | rfl | rfl | ⟨i, rfl, hi⟩ | ⟨i, rfl, hi⟩ | ⟨a, i, rfl, ha, hi⟩ <;> simp only [List.mem_cons, List.not_mem_nil, or_false] at hd
    · rcases hd with rfl | rfl <;> (unfold nmFree; decide +kernel)
    · rcases hd with rfl | rfl
      · unfold nmFree; decide +kernel
      · exact (num_kind ⟨hi.1, by omega⟩).2.2.2
    · subst hd
      unfold nmFree; decide +kernel
    · subst hd
      unfold nmFree; decide +kernel
    · rcases hd with rfl | rfl
      · unfold nmFree; decide +kernel
      · exact (num_kind ⟨hi.1, by omega⟩).2.2.2
    · rcases hd with rfl | rfl
      · unfold nmFree; decide +kernel
      · exact (num_kind ⟨hi.1, by omega⟩).2.2.2
    · rcases hd with rfl | rfl | rfl
      · unfold nmFree; decide +kernel
      · exact (sgn_kind ha).2.2.2
      · exact (num_kind ⟨hi.1, by omega⟩).2.2.2
/-! what lies in the heap -/
def PgV (K : PySem.W.Frag) (H : Hp) (v : V) (f : Pg) (m : Addr) : Prop := ∃ tp vs, v = .ref tp ∧ H tp = some (.tup [.str f.1, .ref m]) ∧ H m = some (.lst vs) ∧ DyAll K H vs (f.2.map PyData.tuple) ∧ tupOnlys (f.2.map PyData.tuple) = true
inductive PgsV (K : PySem.W.Frag) (H : Hp) : List V → List Pg → List Addr → Prop
  | nil : PgsV K H [] [] []
  | snoc {us : List V} {v : V} {r : List Pg} {f : Pg} {as : List Addr} {m : Addr} : PgV K H v f m → PgsV K H us r as → PgsV K H (us ++ [v]) (f :: r) (m :: as)
theorem PgsV.mono {K : PySem.W.Frag} {H H' : Hp} (t : ST K H H') (tk : TK H H') : ∀ {us : List V} {s : List Pg} {as : List Addr}, (∀ m ∈ as, H' m = H m) → PgsV K H us s as → PgsV K H' us s as
  | _, _, _, _, .nil => .nil
  | _, _, _, hm, .snoc ⟨tp, vs, e, h1, h2, h3, h4⟩ r => .snoc ⟨tp, vs, e, tk _ _ h1, by rw [hm _ (by simp)]; exact h2, dya_st t _ _ h4 h3, h4⟩ (r.mono t tk fun m h => hm m (by simp [h]))
theorem PgsV.len {K : PySem.W.Frag} {H : Hp} : ∀ {us : List V} {s : List Pg} {as : List Addr}, PgsV K H us s as → us.length = s.length
  | _, _, _, .nil => rfl
  | _, _, _, .snoc _ r => by rw [List.length_append, r.len]; rfl
theorem PgsV.old {K : PySem.W.Frag} {H : Hp} : ∀ {us : List V} {s : List Pg} {as : List Addr}, PgsV K H us s as → ∀ m ∈ as, ∃ vs, H m = some (.lst vs)
  | _, _, _, .nil, m, h => by simp at h
  | _, _, _, .snoc ⟨_, vs, _, _, h2, _⟩ r, m, h => by
    rcases List.mem_cons.mp h with rfl | h
    · exact ⟨vs, h2⟩
    · exact r.old m h
theorem PgsV.ex {K : PySem.W.Frag} {H H' : Hp} (e : Ex H H') {us : List V} {s : List Pg} {as : List Addr} (h : PgsV K H us s as) : PgsV K H' us s as := h.mono (ST.ex e) (TK.ex e) fun m hm => by
  obtain ⟨vs, z⟩ := h.old m hm
  rw [z, e _ _ z]
theorem PgsV.put {K : PySem.W.Frag} {H : Hp} {a : Addr} {xs : List V} {o : HO} (ha : H a = some (.lst xs)) {us : List V} {s : List Pg} {as : List Addr} (na : a ∉ as) (h : PgsV K H us s as) : PgsV K (upd H a o) us s as := h.mono (ST.lst ha) (TK.lst ha) fun m hm => upd_ne fun z => na (by rw [← z]; exact hm)
theorem PgsV.get {K : PySem.W.Frag} {H : Hp} : ∀ {us : List V} {s : List Pg} {as : List Addr}, PgsV K H us s as → ∀ {i : Nat} {v : V}, us[i]? = some v → ∃ f m, s.reverse[i]? = some f ∧ PgV K H v f m
  | _, _, _, .nil, i, v, h => by simp at h
  | _, _, _, .snoc (us := us) (r := r) (f := f) (m := m) hv hr, i, v, h => by
    have hl := hr.len
    rw [List.reverse_cons]
    rcases Nat.lt_trichotomy i us.length with c | c | c
    · rw [List.getElem?_append_left c] at h
      obtain ⟨f', m', h1, h2⟩ := hr.get h
      exact ⟨f', m', by rw [List.getElem?_append_left (by rw [List.length_reverse]; omega)]; exact h1, h2⟩
    · subst c
      simp at h
      subst h
      exact ⟨f, m, by simp [hl], hv⟩
    · rw [List.getElem?_eq_none (by rw [List.length_append, List.length_singleton]; omega)] at h
      cases h
theorem ite_both {c : Bool} {A B : Prop} (h1 : c = true → A) (h2 : c = false → B) : if c = true then A else B := by
  cases c
  · exact h2 rfl
  · exact h1 rfl
theorem tos_at : ∀ {ds : List PyData} {d : PyData}, tupOnlys ds = true → d ∈ ds → tupOnly d = true
  | [], _, _, h => by cases h
  | e :: ds, d, k, h => by
    have k : (tupOnly e && tupOnlys ds) = true := k
    rw [Bool.and_eq_true] at k
    rcases List.mem_cons.mp h with z | z
    · rw [z]
      exact k.1
    · exact tos_at k.2 z
theorem row_to {k : Nat} {ds : List PyData} (ok : RwOk k ds) : tupOnly (.tuple ds) = true := by
  rcases row_cases ok with rfl | ⟨i, rfl, hi⟩ | rfl | rfl | ⟨i, rfl, hi⟩ | ⟨i, rfl, hi⟩ | ⟨a, i, rfl, ha, hi⟩ <;> rfl
def pD (p : Pg) : PyData := .tuple [.str p.1, .tuple (p.2.map PyData.tuple)]
/-! ### the law's own text of a book -/
theorem rw_shaped {k : Nat} {ds : List PyData} (ok : RwOk k ds) : SeqAt.shaped (.tuple ds) = true := by
  obtain ⟨_, _, h3, h4⟩ := flats7 ok.fl
  have hw : okDs 100000000 ds := h4
  refine shaped_of88 (B := 100000000) hw (row_to ok) ?_
  simp only [PyData.depth]
  omega
theorem rw_eqv {k : Nat} {ds : List PyData} (ok : RwOk k ds) (hc : ds ≠ [.str "take", .none]) : PyData.eqv (.tuple ds) (.tuple [.str "take", .none]) = false := by
  have ne : ∀ z : Str, z ≠ "take" → ∀ es fs, PyData.eqv (.tuple (.str z :: es)) (.tuple (.str "take" :: fs)) = false := fun z nz es fs => by
    simp [PyData.eqv, PyData.eqvAll, nz]
  rcases row_cases ok with rfl | ⟨i, rfl, hi⟩ | rfl | rfl | ⟨i, rfl, hi⟩ | ⟨i, rfl, hi⟩ | ⟨a, i, rfl, ha, hi⟩
  · exact absurd rfl hc
  · simp [PyData.eqv, PyData.eqvAll]
  all_goals exact ne _ (by decide) _ _
theorem no_none {k : Nat} {ds : List PyData} (ok : RwOk k ds) (hc : ds ≠ [.str "take", .none]) (h : PyData.none ∈ ds) : False := by
  rcases row_cases ok with rfl | ⟨i, rfl, _⟩ | rfl | rfl | ⟨i, rfl, _⟩ | ⟨i, rfl, _⟩ | ⟨a, i, rfl, _⟩
  · exact hc rfl
  all_goals simp at h
def spLBTxt (K : PySem.W.Frag) : Sp := fun vs H Q _ => ∃ (v : V) (bk : List Pg), vs = [v] ∧ Dy K H v (bookD bk) ∧ BkOk bk ∧ ∀ H', Ex H H' → Q (.str (bookText bk)) H'
section
variable {P : Program} {w : World} {K : PySem.W.Frag} {mg : Str → Option Value} {base : Heap}
theorem ok__law_book_text (T : Tp w K mg) : FnOk P w K mg base CX0 1 T.f__law_book_text T.d__law_book_text ["_law_book_here"] (spLBTxt K) := by
  refine T.F__law_book_text.ok sc__law_book_text (fun vs H Q E h => ?_) (fun cdv A outer s H vs Q E hr h => ?_)
  · obtain ⟨v, bk, rfl, _⟩ := h
    rfl
  obtain ⟨v, bk, rfl, dy, ok, q⟩ := h
  refine ⟨_, (pss_cons (ps_set (i := 1) sc__law_book_text.nd rfl (Or.inl rfl) (pe_lst pa_nil))
  (pss_cons (ps_for PassesOwn.never rfl (piTK (K := K) rfl (pv 0)) (pg_tup rfl (pgs_cons (pg_name (i := 2) sc__law_book_text.nd rfl (Or.inl rfl)) (pgs_cons (pg_name (i := 3) sc__law_book_text.nd rfl (Or.inl rfl)) pgs_nil))) (pss_cons (ps_expr (pe_bm PySem.F.plainAttrs_list PySem.F.slot_list_append PySem.F.type_list_append mt_append (pv 1) (pa_cons (pe_op op_add_str pe_str (pv 2)) pa_nil (star1 rfl))))
  (pss_one (ps_for PassesOwn.never rfl (piTK (K := K) rfl (pv 3)) (pg_name (i := 4) sc__law_book_text.nd rfl (Or.inl rfl)) (pss_cons (ps_set (i := 5) sc__law_book_text.nd rfl (Or.inl rfl) (pe_ifExp (pt_cmpR (eqDK (K := K) rfl (hu_e64 hr)) (pv 4) (pe_tup (pa_cons pe_str (pa_cons pe_non pa_nil (star1 rfl)) (star1 rfl))) (nomark _)) (pe_lst (pa_cons (pe_ix (ixTK (K := K) rfl) (pv 4) pe_int (fun _ _ => rfl)) pa_nil (star1 rfl))) (pe_lc (own := [("_law_part", 6)]) (g := gName 6) (tt := tYes) rfl sc__law_book_text.nd (piTK (K := K) rfl (pv 4)) (blkOk_by (N := N__law_book_text) (sc := defScope s__law_book_text) (by decide +kernel)) (fun _ _ _ _ _ => (pg_name (i := 6) sc__law_book_text.nd rfl (Or.inl rfl))) (fun _ _ _ _ _ => pts_nil) (fun _ _ _ _ _ => (pe_callTy strISK rfl T.z_str (by decide +kernel) (pa_cons (pv 6) pa_nil (star1 rfl)) (by decide) (by decide) (star1 rfl) (starAll rfl))))))
  (pss_one (ps_expr (pe_bm PySem.F.plainAttrs_list PySem.F.slot_list_append PySem.F.type_list_append mt_append (pv 1) (pa_cons (pe_join pe_str (pv 5)) pa_nil (star1 rfl))))))))))
  (pss_one (ps_ret (pe_join pe_str (pv 1)))))), ?_⟩
  unfold bookD at dy
  cases dy with
  | tup hs ha =>
  rename_i a xs
  have lP : ("program " : Str).length = 8 := by decide +kernel
  refine q_asgP ?_
  refine ⟨(by show 0 ≤ sizeLine; decide), fun r hr1 => ?_⟩
  have e1 := Ex.new (o := .lst []) hr1
  have hr2 : upd H r (.lst []) r = some (.lst ((bkRows (bk.take 0)).map V.str)) := upd_same
  generalize upd H r (.lst []) = H1 at e1 hr2 ⊢
  refine q_forT (K := K) (a := a) (xs := xs) (ev_var rfl) (ex_t e1 hs) (fun i σ' H' => Ex H H' ∧ ∃ c2 c3 c4 c5 c6, σ' = [some (.ref a), some (.ref r), c2, c3, c4, c5, c6] ∧ H' r = some (.lst ((bkRows (bk.take i)).map V.str))) ?_ ?_ ?_ ?_
  · intro H3 e3
    exact ⟨e1.trans e3, none, none, none, none, none, rfl, e3 _ _ hr2⟩
  · intro i σ' H' _ hP
    exact ex_t hP.1 hs
  · intro i x σ' H' hx hP
    obtain ⟨e3, c2, c3, c4, c5, c6, rfl, hr3⟩ := hP
    obtain ⟨d, h1, h2⟩ := dya_get (dya_mono e3 ha) hx
    rw [List.getElem?_map] at h1
    obtain ⟨p, hp, rfl⟩ := Option.map_eq_some_iff.mp h1
    have pm := List.mem_of_getElem? hp
    have hyl := bk_len ok i
    have dyp : Dy K H' x (pD p) := h2
    cases h2 with
    | tup ht hta =>
    cases hta with
    | cons q1 q2 =>
    cases q2 with
    | cons q2 q3 =>
    cases q3
    cases q1
    cases q2 with
    | tup hp1 hp2 =>
    rename_i pa rs
    have ny := (ok.nm p pm).2.1
    have pl := ok.pl p pm
    refine ⟨_, _, rfl, ht, rfl, _, _, rfl, _, _, rfl, rfl, ?_⟩
    refine ⟨.ref r, rfl, Or.inl ⟨rfl, _, sq_of hr3⟩, _, rfl, "program ", p.1, rfl, rfl, sz_of (by omega), r, _, _, rfl, rfl, hr3, sz_lt (by rw [List.length_map]; omega), ?_⟩
    have pe : ("program " ++ p.1 : Str) = prgR p.1 := by
      unfold prgR
      rw [← two_eq (w0 := "program") "program " p.1 (by decide +kernel)]
      refine TL.ext_tl ?_
      simp only [TL.tl_append]
      rfl
    rw [pe]
    have k4 : ST K H' (upd H' r (.lst ((bkRows (bk.take i)).map V.str ++ [V.str (prgR p.1)]))) := ST.lst hr3
    have e4 : Ex H (upd H' r (.lst ((bkRows (bk.take i)).map V.str ++ [V.str (prgR p.1)]))) := Ex.mut e3 hr1
    have hr4 : upd H' r (.lst ((bkRows (bk.take i)).map V.str ++ [V.str (prgR p.1)])) r = some (.lst ((bkRows (bk.take i) ++ [prgR p.1] ++ (p.2.take 0).map rowR).map V.str)) := by
      rw [upd_same]
      simp
    have dy4 : Dy K (upd H' r (.lst ((bkRows (bk.take i)).map V.str ++ [V.str (prgR p.1)]))) (.ref pa) (.tuple (p.2.map PyData.tuple)) := dy_st k4 _ _ (rows_to (fun ds hd => ok.rw_ p pm ds hd)) (.tup hp1 hp2)
    generalize upd H' r (.lst ((bkRows (bk.take i)).map V.str ++ [V.str (prgR p.1)])) = H5 at e4 hr4 dy4 ⊢
    cases dy4 with
    | tup hs5 ha5 =>
    rename_i rs5
    refine ⟨_, rfl, pa, rfl, ⟨_, hs5⟩, ?_⟩
    refine for_tup (K := K) (a := pa) (xs := rs5) (fun j σ' H' => Ex H H' ∧ SqT K H' pa rs5 ∧ DyAll K H' rs5 (p.2.map PyData.tuple) ∧ ∃ c4 c5 c6, σ' = [some (.ref a), some (.ref r), some (.str p.1), some (.ref pa), c4, c5, c6] ∧ H' r = some (.lst ((bkRows (bk.take i) ++ [prgR p.1] ++ (p.2.take j).map rowR).map V.str))) ⟨e4, hs5, ha5, _, _, _, rfl, hr4⟩ (fun j σ' H' _ hP => hP.2.1) ?_ ?_
    · rintro j y σ' H6 hy ⟨e6, hs6, ha6, c4, c5, c6, rfl, hr6⟩
      obtain ⟨d, h1, h2⟩ := dya_get ha6 hy
      rw [List.getElem?_map] at h1
      obtain ⟨ds, hds, rfl⟩ := Option.map_eq_some_iff.mp h1
      have dm := List.mem_of_getElem? hds
      have rk := ok.rw_ p pm ds dm
      have dlen : (p.2.take j).length ≤ 40 := by rw [List.length_take]; omega
      -- the end of it, from the words on
      have fin : ∀ (H7 : Hp) (wl : Addr) (ws : List Str), Ex H6 H7 → H7 wl = some (.lst (ws.map V.str)) → Txt.join " " ws = rowR ds → ws.length ≤ 3 → (∀ z ∈ ws, z.length ≤ 60) → ∀ (D : Ends), (∀ H8 : Hp, Ex H7 H8 → D.nx [some (.ref a), some (.ref r), some (.str p.1), some (.ref pa), some y, some (.ref wl), c6] (upd H8 r (.lst ((bkRows (bk.take i) ++ [prgR p.1] ++ (p.2.take j).map rowR).map V.str ++ [V.str (rowR ds)])))) →
          tDrop (tBM K "list" rAppend (tVar 1) (tCons (tM1 (fun x xs H Q => ∃ a p, ∃ ys : List Str, x = .str a ∧ xs = [.ref p] ∧ (SqL K H p (ys.map V.str) ∨ SqT K H p (ys.map V.str)) ∧ (ys.map (·.length)).sum + ys.length * a.length ≤ 16777216 ∧ Q (.str (Txt.join a ys)) H) (tC (.str " ")) (tVar 5)) tNil)) D [some (.ref a), some (.ref r), some (.str p.1), some (.ref pa), some y, some (.ref wl), c6] H7 := by
        intro H7 wl ws e7 hw hj wn wz D nx
        have hs := sum_len (B := 60) wz
        have e1 : (" " : Str).length = 1 := by decide +kernel
        refine ⟨.ref r, rfl, Or.inl ⟨rfl, _, sq_of (e7 _ _ hr6)⟩, ?_⟩
        refine ev_joinD (K := K) (ys := ws) (DL.v rfl hw (dya_of_strs ws)) (by rw [e1]; omega) H7 (Ex.refl H7) _ fun H8 e8 => ?_
        rw [hj]
        exact ⟨r, _, _, rfl, rfl, e8 _ _ (e7 _ _ hr6), sz_lt (by rw [List.length_map, List.length_append, List.length_append, List.length_map, List.length_singleton]; omega), nx H8 e8⟩
      have inv : ∀ (H8 : Hp) (wl : Addr), Ex H6 H8 → Ex H (upd H8 r (.lst ((bkRows (bk.take i) ++ [prgR p.1] ++ (p.2.take j).map rowR).map V.str ++ [V.str (rowR ds)]))) ∧ SqT K (upd H8 r (.lst ((bkRows (bk.take i) ++ [prgR p.1] ++ (p.2.take j).map rowR).map V.str ++ [V.str (rowR ds)]))) pa rs5 ∧ DyAll K (upd H8 r (.lst ((bkRows (bk.take i) ++ [prgR p.1] ++ (p.2.take j).map rowR).map V.str ++ [V.str (rowR ds)]))) rs5 (p.2.map PyData.tuple) ∧ ∃ c4 c5 c6', [some (V.ref a), some (V.ref r), some (V.str p.1), some (V.ref pa), some y, some (V.ref wl), c6] = [some (V.ref a), some (V.ref r), some (V.str p.1), some (V.ref pa), c4, c5, c6'] ∧ upd H8 r (.lst ((bkRows (bk.take i) ++ [prgR p.1] ++ (p.2.take j).map rowR).map V.str ++ [V.str (rowR ds)])) r = some (.lst ((bkRows (bk.take i) ++ [prgR p.1] ++ (p.2.take (j + 1)).map rowR).map V.str)) := fun H8 wl e8 => by
        have t8 : ST K H8 (upd H8 r (.lst ((bkRows (bk.take i) ++ [prgR p.1] ++ (p.2.take j).map rowR).map V.str ++ [V.str (rowR ds)]))) := ST.lst (e8 _ _ hr6)
        refine ⟨Ex.mut (e6.trans e8) hr1, t8 _ _ (ex_t e8 hs6), dya_st t8 _ _ (rows_to (fun ds hd => ok.rw_ p pm ds hd)) (dya_mono e8 ha6), _, _, _, rfl, ?_⟩
        rw [upd_same, take_oneS hds]
        simp
      refine q_asgP ?_
      refine if_raw (tst_raw ?_)
      refine ⟨_, rfl, (by show 2 ≤ sizeLine; decide), fun t2 ht2 => ?_⟩
      have d1 := Ex.new (o := .tup [.str "take", .non]) ht2
      have hd2 : Dp K (upd H6 t2 (.tup [.str "take", .non])) (.ref t2) (.tuple [.str "take", .none]) := dy_dp _ _ rfl (.tup (st_of upd_same) (.cons (.str _) (.cons .non .nil)))
      generalize upd H6 t2 (.tup [.str "take", .non]) = H7 at d1 hd2 ⊢
      have h27 := dy_mono d1 h2
      refine ⟨_, _, dy_dp _ _ (row_to rk) h27, hd2, rw_shaped rk, by decide +kernel, _, rfl, ?_⟩
      by_cases hc : ds = [.str "take", .none]
      · subst hc
        refine iteT' (by decide +kernel) ?_
        cases h27 with
        | tup hT hA =>
        cases hA with
        | cons g1 g2 =>
        cases g1
        refine ⟨_, rfl, _, _, 0, .str "take", rfl, rfl, hT, by simp [atI, ixN], (by show 1 ≤ sizeLine; decide), fun wl hwl => ?_⟩
        exact fin _ wl ["take"] (d1.trans (Ex.new hwl)) upd_same rfl (by decide) (fun z hz => by rw [List.mem_singleton.mp hz]; exact Nat.le_of_ble_eq_true rfl) _ fun H8 e8 => inv H8 wl ((d1.trans (Ex.new hwl)).trans e8)
      · refine iteF' (rw_eqv rk hc) ?_
        have fl : ∀ d ∈ ds, flat0 d = true := fun d hd => List.all_eq_true.mp rk.fl d hd
        refine DL.lcT (K := K) (f := fun _ => true) (g := fun d => .str (partS d)) (DE.w rfl h27) (by have := rk.ln; omega) (fun _ _ _ => rfl) (fun _ => rfl) (fun v d H8 e8 hd dv => fun H9 e9 Q9 q9 => q9 H9 (Ex.refl H9)) (fun v d H8 e8 hd _ dv => ?_) H7 _ (Ex.refl H7) fun wl vs H8 e8 hw dw => ?_
        · have f0 := fl d hd
          intro H9 Q9 e9 q9
          cases dv with
          | str x => exact ⟨_, rfl, Or.inr ⟨x, rfl, q9 _ H9 (Ex.refl H9) (.str x)⟩⟩
          | int i => exact ⟨_, rfl, Or.inl ⟨i, rfl, (flat_int f0).1, q9 _ H9 (Ex.refl H9) (.str _)⟩⟩
          | bl b => exact absurd (no_bool rk hd) (by simp)
          | non => exact absurd (no_none rk hc hd) (by simp)
          | _ => cases f0
        · have el : ((ds.filter fun _ => true).map fun d => PyData.str (partS d)) = (ds.map partS).map PyData.str := by
            rw [List.filter_eq_self.mpr (fun _ _ => rfl), List.map_map]
            rfl
          rw [el] at dw
          obtain rfl := dya_strs dw
          have hj : Txt.join " " (ds.map partS) = rowR ds := by
            unfold rowR
            rw [List.filter_eq_self.mpr fun d hd => ?_]
            cases d <;> first | rfl | exact absurd (no_none rk hc hd) (by simp)
          exact fin H8 wl (ds.map partS) (d1.trans e8) hw hj (by rw [List.length_map]; exact rk.ln) (fun z hz => by obtain ⟨d, hd, rfl⟩ := List.mem_map.mp hz; exact part_len (fl d hd)) _ fun H9 e9 => inv H9 wl ((d1.trans e8).trans e9)
    · rintro σ' H6 ⟨e6, hs6, ha6, c4, c5, c6, rfl, hr6⟩
      refine ⟨e6, _, _, _, _, _, rfl, ?_⟩
      have pj : p.2.take rs5.length = p.2 := List.take_of_length_le (by rw [dya_ln ha6, List.length_map]; exact Nat.le_refl _)
      rw [hr6, pj, bk_take bk i p hp, List.append_assoc]
      rfl
  · intro σ' H' hP
    obtain ⟨e3, c2, c3, c4, c5, c6, rfl, hr3⟩ := hP
    rw [dya_ln ha, List.length_map, List.take_length] at hr3
    refine s_ret (v := .str (bookText bk)) ?_ (fun H4 e4 => q H4 (e3.trans e4))
    exact ev_joinD (K := K) (DL.v rfl hr3 (dya_of_strs _)) (bk_sum ok)
end
/-! ### letters and numbers -/
def lettS (z : Str) : Bool := decide (1 ≤ z.length) && lettersB z
def numV (z : Str) : Int := (PySem.intText? z).getD 0
theorem kb_lit {k z : Str} (h1 : k ≠ "NAME") (h2 : k ≠ "N") (h3 : k ≠ "M") : kindB k z = decide (z = k) := by
  unfold kindB
  rw [if_neg h1, if_neg h2, if_neg h3]
theorem kb_name (z : Str) : kindB "NAME" z = lettS z := by
  unfold kindB
  rw [if_pos rfl]
  rfl
theorem kb_num (z : Str) : kindB "N" z = numB z := by
  unfold kindB
  rw [if_neg (by decide), if_pos rfl]
theorem dig_lt : ∀ (cs : List Nat) (acc : Nat), NumText.AllDigits cs → cs.foldl (fun acc c => acc * 10 + (c - 48)) acc < (acc + 1) * 10 ^ cs.length
  | [], acc, _ => by simp
  | c :: cs, acc, h => by
    have h1 := h c (by simp)
    have ih := dig_lt cs (acc * 10 + (c - 48)) fun x hx => h x (by simp [hx])
    rw [List.foldl_cons, List.length_cons, Nat.pow_succ]
    refine Nat.lt_of_lt_of_le ih ?_
    have e : (acc + 1) * (10 ^ cs.length * 10) = ((acc + 1) * 10) * 10 ^ cs.length := by
      rw [Nat.mul_comm (10 ^ cs.length) 10, ← Nat.mul_assoc]
    rw [e]
    exact Nat.mul_le_mul_right _ (by omega)
theorem num_rng {z : Str} (h : numB z = true) : 0 ≤ numV z ∧ numV z ≤ 999999999 := by
  obtain ⟨h1, h2, h3⟩ := num_len h
  unfold numV
  obtain ⟨n, e⟩ : ∃ n : Int, PySem.intText? z = some n ∧ 0 ≤ n ∧ n ≤ 999999999 := by
    have hd := fig_all.mp h3
    have hl : z.cps.toList.length = z.length := by simp [Str.length]
    have hne : z.cps.toList ≠ [] := fun e => by
      rw [e] at hl
      simp at hl
      omega
    refine ⟨_, PySem.intText_digits hd hne (by omega), by omega, ?_⟩
    have := dig_lt _ 0 hd
    rw [hl] at this
    have h9 : 10 ^ z.length ≤ 10 ^ 9 := Nat.pow_le_pow_right (by decide) h2
    have e9 : (10 : Nat) ^ 9 = 1000000000 := by decide
    unfold PySem.NumText.digitsVal
    omega
  rw [e.1]
  exact e.2
/-! ### words of the law -/
theorem small_in {c : Nat} : (c ∈ ("abcdefghijklmnopqrstuvwxyz" : Str).cps.toList) ↔ (97 ≤ c ∧ c ≤ 122) := by
  constructor
  · have : ∀ c ∈ ("abcdefghijklmnopqrstuvwxyz" : Str).cps.toList, 97 ≤ c ∧ c ≤ 122 := by decide +kernel
    exact this c
  · intro h
    have : ∀ c : Fin 123, 97 ≤ c.val → c.val ∈ ("abcdefghijklmnopqrstuvwxyz" : Str).cps.toList := by decide +kernel
    exact this ⟨c, by omega⟩ h.1
theorem le_a (c : Nat) : (!decide ((⟨#[c]⟩ : Str).cps.toList < ("a" : Str).cps.toList)) = decide (97 ≤ c) := by
  have e : ("a" : Str).cps.toList = [97] := by decide +kernel
  rw [e]
  show (!decide ([c] < [97])) = _
  rw [Bool.eq_iff_iff]
  simp [List.cons_lt_cons_iff]
theorem le_z (c : Nat) : (!decide (("z" : Str).cps.toList < (⟨#[c]⟩ : Str).cps.toList)) = decide (c ≤ 122) := by
  have e : ("z" : Str).cps.toList = [122] := by decide +kernel
  rw [e]
  show (!decide ([122] < [c])) = _
  rw [Bool.eq_iff_iff]
  simp [List.cons_lt_cons_iff]
theorem lett_all {z : Str} : ((List.range z.cps.size).map fun i => (decide (97 ≤ z.cps.getD i 0) && decide (z.cps.getD i 0 ≤ 122))).all id = lettersB z := by
  unfold lettersB
  rw [List.all_map, Bool.eq_iff_iff, List.all_eq_true, List.all_eq_true]
  constructor
  · intro h c hc
    obtain ⟨i, hi, e⟩ := List.getElem_of_mem hc
    have hi2 : i < z.cps.size := by simpa using hi
    have := h i (List.mem_range.mpr hi2)
    simp only [Function.comp, id] at this
    rw [show z.cps.getD i 0 = c by rw [← e]; simp [Array.getD_eq_getD_getElem?, hi2], Bool.and_eq_true] at this
    exact decide_eq_true (small_in.mpr ⟨of_decide_eq_true this.1, of_decide_eq_true this.2⟩)
  · intro h i hi
    have hi2 := List.mem_range.mp hi
    simp only [Function.comp, id]
    have := h z.cps[i] (by simp)
    rw [show z.cps.getD i 0 = z.cps[i] by simp [Array.getD_eq_getD_getElem?, hi2], Bool.and_eq_true]
    obtain ⟨h1, h2⟩ := small_in.mp (of_decide_eq_true this)
    exact ⟨decide_eq_true h1, decide_eq_true h2⟩
theorem head_zero {z : Str} (h : 1 ≤ z.length) : ∃ c, z.cps.toList[0]? = some c ∧ (Txt.startswith z "0" = true ↔ c = 48) := by
  have hl : z.cps.toList.length = z.length := by simp [Str.length]
  refine ⟨z.cps.toList[0], List.getElem?_eq_getElem (by omega), ?_⟩
  rw [show ("0" : Str) = ⟨#[48]⟩ from by decide, sw_one, List.getElem?_eq_getElem (by omega)]
  exact ⟨fun h => Option.some.inj h, fun h => congrArg some h⟩
theorem hu_e65 {k : Nat} {A : Around} (hr : Room k A) : A.units + 65 < cLine := by have := hu_r hr; omega
theorem cls89 : ∀ cs : List Addr, Paired ClsV (cs.map V.ref) (cs.map Value.ref)
  | [] => .nil
  | c :: cs => .cons (.own c) (cls89 cs)
theorem kits89 {K : PySem.W.Frag} {D : Addr} : ∀ {cs : List Addr}, (∀ C ∈ cs, PySem.W.kitOne K (.ref D) (.ref C) = some false) → PySem.W.kitAny K (.ref D) (cs.map Value.ref) = some false
  | [], _ => rfl
  | c :: cs, h => by
    have h1 := h c List.mem_cons_self
    have h2 := kits89 (cs := cs) fun C hC => h C (List.mem_cons_of_mem _ hC)
    simp [PySem.W.kitAny, h1] at h2 ⊢
    exact h2
theorem ev_isxT {K : PySem.W.Frag} {H : Hp} {σ : L2.St} {i : Nat} {ta : TA} {a D : Addr} {d : Option Addr} {cs : List Addr} (hσ : σ[i]? = some (some (.ref a))) (x : XcAt H a D d) (xc : XcC K D) (ht : EvA ta σ H (cs.map V.ref)) (hl : cs.length ≤ 100) (k : ∀ C ∈ cs, PySem.W.kitOne K (.ref D) (.ref C) = some false) : Ev (tCB (rIsXT K) (tCons (tVar i) (tCons (tTup ta) tNil))) σ H (.bl false) := fun H1 e1 Q q =>
  ⟨_, hσ, ht H1 e1 _ fun H2 e2 => ⟨sz_of (by rw [List.length_map]; omega), fun tp htp => ⟨a, D, tp, d, _, _, false, rfl, x.ex (e1.trans (e2.trans (Ex.new htp))), xc, upd_same, cls89 _, kits89 k, q _ (e2.trans (Ex.new htp))⟩⟩⟩
theorem ev_isx {K : PySem.W.Frag} {H : Hp} {σ : L2.St} {i : Nat} {a D : Addr} {d : Option Addr} {c : V} {u : Value} {b : Bool} (hσ : σ[i]? = some (some (.ref a))) (x : XcAt H a D d) (xc : XcC K D) (hc : ClsV c u) (k : PySem.W.kitOne K (.ref D) u = some b) : Ev (tCB (rIsX K) (tCons (tVar i) (tCons (tC c) tNil))) σ H (.bl b) := fun H1 e1 Q q =>
  ⟨_, hσ, a, D, d, c, u, b, rfl, x.ex e1, xc, hc, k, q H1 (Ex.refl H1)⟩
section
variable {P : Program} {w : World} {K : PySem.W.Frag} {mg : Str → Option Value} {base : Heap}
theorem kitT89 (T : Tp w K mg) : (∀ C ∈ [T.C_Endless, T.C_NoBounds, T.C_NoHouse, T.C_NoLine, T.C_NoName, T.C_NoScript, T.C_NoStep, T.C_NotWaiting, T.C_TooMany, T.C_Uneven], PySem.W.kitOne K (.ref T.C_NoText) (.ref C) = some false) ∧ PySem.W.kitOne K (.ref T.C_NoText) (.ref T.C_NoText) = some true ∧ PySem.W.kitOne K (.ref T.C_NoText) (.ref T.C_NoPlan) = some false ∧ PySem.W.kitOne K (.ref T.C_NoText) (.ref T.C_NoBook) = some false ∧ PySem.W.kitOne K (.ref T.C_NoText) (.type "ValueError") = some true := by
  have self := T.sb_NoText_NoText
  have no : ∀ {C : Addr}, PySem.W.subIn K (.ref T.C_NoText) (.ref C) = some false → T.C_NoText = C → false = true := fun {C} h e => by
    subst e
    rw [self] at h
    cases h
  refine ⟨fun C hC => ?_, T.xc_NoText.kit self fun _ => rfl, T.xc_NoPlan.kit T.sb_NoText_NoPlan (no T.sb_NoText_NoPlan), T.xc_NoBook.kit T.sb_NoText_NoBook (no T.sb_NoText_NoBook), kit_b (by decide +kernel) T.sb_NoText_ValueError⟩
  simp only [List.mem_cons, List.not_mem_nil, or_false] at hC
  rcases hC with rfl | rfl | rfl | rfl | rfl | rfl | rfl | rfl | rfl | rfl
  · exact T.xc_Endless.kit T.sb_NoText_Endless (no T.sb_NoText_Endless)
  · exact T.xc_NoBounds.kit T.sb_NoText_NoBounds (no T.sb_NoText_NoBounds)
  · exact T.xc_NoHouse.kit T.sb_NoText_NoHouse (no T.sb_NoText_NoHouse)
  · exact T.xc_NoLine.kit T.sb_NoText_NoLine (no T.sb_NoText_NoLine)
  · exact T.xc_NoName.kit T.sb_NoText_NoName (no T.sb_NoText_NoName)
  · exact T.xc_NoScript.kit T.sb_NoText_NoScript (no T.sb_NoText_NoScript)
  · exact T.xc_NoStep.kit T.sb_NoText_NoStep (no T.sb_NoText_NoStep)
  · exact T.xc_NotWaiting.kit T.sb_NoText_NotWaiting (no T.sb_NoText_NotWaiting)
  · exact T.xc_TooMany.kit T.sb_NoText_TooMany (no T.sb_NoText_TooMany)
  · exact T.xc_Uneven.kit T.sb_NoText_Uneven (no T.sb_NoText_Uneven)
theorem kitP89 (T : Tp w K mg) : (∀ C ∈ [T.C_Endless, T.C_NoBounds, T.C_NoHouse, T.C_NoLine, T.C_NoName, T.C_NoScript, T.C_NoStep, T.C_NotWaiting, T.C_TooMany, T.C_Uneven], PySem.W.kitOne K (.ref T.C_NoBook) (.ref C) = some false) ∧ PySem.W.kitOne K (.ref T.C_NoBook) (.ref T.C_NoText) = some false ∧ PySem.W.kitOne K (.ref T.C_NoBook) (.ref T.C_NoPlan) = some false ∧ PySem.W.kitOne K (.ref T.C_NoBook) (.ref T.C_NoBook) = some true ∧ PySem.W.kitOne K (.ref T.C_NoBook) (.type "ValueError") = some true := by
  have self := T.sb_NoBook_NoBook
  have no : ∀ {C : Addr}, PySem.W.subIn K (.ref T.C_NoBook) (.ref C) = some false → T.C_NoBook = C → false = true := fun {C} h e => by
    subst e
    rw [self] at h
    cases h
  refine ⟨fun C hC => ?_, T.xc_NoText.kit T.sb_NoBook_NoText (no T.sb_NoBook_NoText), T.xc_NoPlan.kit T.sb_NoBook_NoPlan (no T.sb_NoBook_NoPlan), T.xc_NoBook.kit self fun _ => rfl, kit_b (by decide +kernel) T.sb_NoBook_ValueError⟩
  simp only [List.mem_cons, List.not_mem_nil, or_false] at hC
  rcases hC with rfl | rfl | rfl | rfl | rfl | rfl | rfl | rfl | rfl | rfl
  · exact T.xc_Endless.kit T.sb_NoBook_Endless (no T.sb_NoBook_Endless)
  · exact T.xc_NoBounds.kit T.sb_NoBook_NoBounds (no T.sb_NoBook_NoBounds)
  · exact T.xc_NoHouse.kit T.sb_NoBook_NoHouse (no T.sb_NoBook_NoHouse)
  · exact T.xc_NoLine.kit T.sb_NoBook_NoLine (no T.sb_NoBook_NoLine)
  · exact T.xc_NoName.kit T.sb_NoBook_NoName (no T.sb_NoBook_NoName)
  · exact T.xc_NoScript.kit T.sb_NoBook_NoScript (no T.sb_NoBook_NoScript)
  · exact T.xc_NoStep.kit T.sb_NoBook_NoStep (no T.sb_NoBook_NoStep)
  · exact T.xc_NotWaiting.kit T.sb_NoBook_NotWaiting (no T.sb_NoBook_NotWaiting)
  · exact T.xc_TooMany.kit T.sb_NoBook_TooMany (no T.sb_NoBook_TooMany)
  · exact T.xc_Uneven.kit T.sb_NoBook_Uneven (no T.sb_NoBook_Uneven)
end
def cntV (z : Str) : V := if numB z = true then .int (numV z) else .non
def letV (z : Str) : V := if lettS z = true then .str z else .non
def spCnt : Sp := fun vs H Q _ => ∃ z : Str, vs = [.str z] ∧ z.cps.size ≤ 40000 ∧ ∀ H', Ex H H' → Q (cntV z) H'
def spLet : Sp := fun vs H Q _ => ∃ z : Str, vs = [.str z] ∧ z.cps.size ≤ 40000 ∧ ∀ H', Ex H H' → Q (letV z) H'
def spCls (CT CP : Addr) : Sp := fun vs H Q _ => ∃ a : Addr, vs = [.ref a] ∧
  ((∃ (dd : Addr) (i : Int), H a = some (XcO (.ref CT) (some dd) a) ∧ H dd = some (.xd [("row", .int i)]) ∧ ∀ r H', Ex H H' → H r = none → H' r = some (.tup [.str "text", .int i]) → Q (.ref r) H') ∨
   (H a = some (XcO (.ref CP) none a) ∧ ∀ H', Ex H H' → Q (.str "book") H'))
section
variable {P : Program} {w : World} {K : PySem.W.Frag} {mg : Str → Option Value} {base : Heap}
theorem ok__law_count (T : Tp w K mg) : FnOk P w K mg base CX0 1 T.f__law_count T.d__law_count ["_law_word"] spCnt := by
  refine T.F__law_count.ok sc__law_count (fun vs H Q E h => ?_) (fun cdv A outer s H vs Q E hr h => ?_)
  · obtain ⟨z, rfl, _⟩ := h
    rfl
  obtain ⟨z, rfl, hz, q⟩ := h
  refine ⟨_, (pss_cons (ps_if (PW.pt (pw_or (pt_not (pt_chain op_lt op_lt pe_int (pe_callB call_len rfl T.z_len PySem.boot_len (pa_cons (pv 0) pa_nil (star1 rfl)) (by decide) (by decide) (star1 rfl) (starAll rfl)) pe_int)) (pw_or1 (pt_not (pt_val (pe_callB (allK (K := K) rfl rfl) rfl T.z_all (by decide +kernel) (pa_cons (pe_lc (own := [("_law_figure", 1)]) (g := gName 1) (tt := tYes) rfl sc__law_count.nd (pi_str (pv 0)) (blkOk_by (N := N__law_count) (sc := defScope s__law_count) (by decide +kernel)) (fun _ _ _ _ _ => (pg_name (i := 1) sc__law_count.nd rfl (Or.inl rfl))) (fun _ _ _ _ _ => pts_nil) (fun _ _ _ _ _ => (pe_cmpR op_in_sign (pv 1) pe_str (by with_unfolding_all rfl)))) pa_nil (star1 rfl)) (by decide) (by decide) (star1 rfl) (starAll rfl))))))) (pss_one (ps_ret pe_non)) pss_nil)
  (pss_one (ps_ret (pe_ifExp (PW.pt (pw_or (pt_cmpR op_eq (pv 0) pe_str (nomark _)) (pw_or1 (pt_cmpR op_ne (pe_ix ix_str (pv 0) pe_int (fun _ _ => rfl)) pe_str (nomark _))))) (pe_callTy call_int_str rfl T.z_int (by decide +kernel) (pa_cons (pv 0) pa_nil (star1 rfl)) (by decide) (by decide) (star1 rfl) (starAll rfl)) pe_non)))), ?_⟩
  have hz1 : z.length ≤ 40000 := hz
  have fin : ∀ {v : V}, cntV z = v → ∀ H', Ex H H' → Q v H' := fun e H' e' => by rw [← e]; exact q H' e'
  refine q_ifQ (or_raw (not_raw (tst_raw ?_)))
  refine ⟨_, rfl, .str z, z.length, rfl, ⟨Nat.le_trans hz1 (by decide), rfl⟩, 0, z.length, rfl, rfl, _, rfl, ?_⟩
  by_cases c1 : (0 : Int) < (z.length : Int)
  case neg =>
    refine iteF' (decide_eq_false c1) ⟨_, rfl, iteT' rfl (iteT' rfl ?_)⟩
    exact s_retP (fin (by
      have nb : numB z = false := by
        unfold numB
        rw [if_pos (fun h => by omega)]
      unfold cntV
      rw [nb]
      rfl) H (Ex.refl H))
  refine iteT' (decide_eq_true c1) ⟨_, _, rfl, rfl, _, rfl, ?_⟩
  by_cases c2 : (z.length : Int) < 10
  case neg =>
    refine iteT' (by rw [decide_eq_false c2]; rfl) (iteT' rfl ?_)
    exact s_retP (fin (by
      have nb : numB z = false := by
        unfold numB
        rw [if_pos (fun h => by omega)]
      unfold cntV
      rw [nb]
      rfl) H (Ex.refl H))
  refine iteF' (by rw [decide_eq_true c2]; rfl) ?_
  have c12 : ¬ ¬ (1 ≤ z.length ∧ z.length ≤ 9) := fun h => h ⟨by omega, by omega⟩
  refine not_raw ?_
  refine et_use (b := figB z) (et_B (ev_is (ev_allN (bs := (List.range z.cps.size).map fun i => decide (z.cps.getD i 0 ∈ ("0123456789" : Str).cps.toList)) ?_) (by rw [figs_all]))) fun H1 e1 => ?_
  · have c := el_lcS (σ := start N__law_count [.str z]) (H := H) (z := z) (tl := tVar 0) (te := tOp (fun x y H Q => ∃ (c : Nat) (z : Str), x = .str ⟨#[c]⟩ ∧ y = .str z ∧ Q (.bl (decide (c ∈ z.cps.toList))) H) (tVar 1) (tC (.str "0123456789"))) (j := 1) (vs := [1]) (fun i => .bl (decide (z.cps.getD i 0 ∈ ("0123456789" : Str).cps.toList))) (ev_var rfl) hz (fun x => rfl) (fun i c H3 e3 hi => ?_)
    · rw [List.map_map]
      exact c
    · have e : z.cps.getD i 0 = c := by simp [Array.getD_eq_getD_getElem?, hi]
      rw [e]
      exact ev_op (ev_var rfl) ev_c fun H4 _ Q' q' => ⟨c, _, rfl, rfl, q' H4 (Ex.refl H4)⟩
  cases c3 : figB z with
  | false =>
    refine iteT' rfl ?_
    have nb : numB z = false := by
      unfold numB
      rw [if_neg c12, c3]
      split <;> rfl
    refine s_retP (fin ?_ H1 e1)
    unfold cntV
    rw [nb]
    rfl
  | true =>
  refine iteF' rfl ?_
  obtain ⟨c, hc, hs⟩ := head_zero (z := z) (by omega)
  obtain ⟨n, hn⟩ : ∃ n : Nat, PySem.intText? z = some (n : Int) := by
    refine ⟨_, PySem.intText_digits (fig_all.mp c3) (fun e => ?_) (by omega)⟩
    rw [e] at hc
    cases hc
  have ev : numV z = (n : Int) := by unfold numV; rw [hn]; rfl
  refine s_retP (if_raw (or_raw (tst_raw ⟨_, rfl, rfl, _, rfl, ?_⟩)))
  have yes : numB z = true → (∃ n, [V.str z] = [V.str n] ∧ True) → cntV z = .int (n : Int) := fun h _ => by unfold cntV; rw [if_pos h, ev]
  by_cases c4 : z = "0"
  · have nb : numB z = true := by
      unfold numB
      rw [if_neg c12, if_neg (fun h => h.2 c4), c3]
    refine iteT' (by rw [c4]; rfl) (iteT' rfl ?_)
    exact ⟨_, rfl, z, n, rfl, hn, by omega, fin (yes nb ⟨z, rfl, trivial⟩) H1 e1⟩
  refine iteF' (decide_eq_false fun w => c4 (by injection w)) (tst_raw ⟨_, rfl, z, 0, c, rfl, rfl, Nat.le_trans hz1 (by decide), atI_nat (j := 0) hc, ?_⟩)
  by_cases c5 : c = 48
  · subst c5
    refine ⟨rfl, _, rfl, iteF' (by decide) ?_⟩
    have nb : numB z = false := by
      unfold numB
      rw [if_neg c12, if_pos ⟨hs.mpr rfl, c4⟩]
    refine fin ?_ H1 e1
    unfold cntV
    rw [nb]
    rfl
  · have nb : numB z = true := by
      unfold numB
      rw [if_neg c12, if_neg (fun h => c5 (hs.mp h.1)), c3]
    refine ⟨rfl, _, rfl, iteT' ?_ ?_⟩
    · have : decide (V.str ⟨#[c]⟩ = V.str "0") = false := decide_eq_false fun w => by
        injection w with w
        have := congrArg (fun s : Str => s.cps.toList) w
        rw [show ("0" : Str).cps.toList = [48] from by decide +kernel] at this
        simp at this
        exact c5 this
      rw [this]
      rfl
    exact ⟨_, rfl, z, n, rfl, hn, by omega, fin (yes nb ⟨z, rfl, trivial⟩) H1 e1⟩
theorem ok__law_letters (T : Tp w K mg) : FnOk P w K mg base CX0 1 T.f__law_letters T.d__law_letters ["_law_word"] spLet := by
  refine T.F__law_letters.ok sc__law_letters (fun vs H Q E h => ?_) (fun cdv A outer s H vs Q E hr h => ?_)
  · obtain ⟨z, rfl, _⟩ := h
    rfl
  obtain ⟨z, rfl, hz, q⟩ := h
  refine ⟨_, (pss_one (ps_ret (pe_ifExp (PW.pt (pw_and (pt_cmpR op_ne (pv 0) pe_str (nomark _)) (pw_and1 (pt_val (pe_callB (allK (K := K) rfl rfl) rfl T.z_all (by decide +kernel) (pa_cons (pe_lc (own := [("_law_sign", 1)]) (g := gName 1) (tt := tYes) rfl sc__law_letters.nd (pi_str (pv 0)) (blkOk_by (N := N__law_letters) (sc := defScope s__law_letters) (by decide +kernel)) (fun _ _ _ _ _ => (pg_name (i := 1) sc__law_letters.nd rfl (Or.inl rfl))) (fun _ _ _ _ _ => pts_nil) (fun _ _ _ _ _ => (pe_chain op_le_str op_le_str pe_str (pv 1) pe_str))) pa_nil (star1 rfl)) (by decide) (by decide) (star1 rfl) (starAll rfl)))))) (pv 0) pe_non))), ?_⟩
  have fin : ∀ {v : V}, letV z = v → ∀ H', Ex H H' → Q v H' := fun e H' e' => by rw [← e]; exact q H' e'
  refine s_retP (if_raw (and_raw (tst_raw ⟨_, rfl, rfl, _, rfl, ?_⟩)))
  by_cases c1 : z = ""
  · refine iteF' (by rw [c1]; rfl) (iteF' rfl ?_)
    exact fin (by unfold letV lettS; rw [c1]; rfl) H (Ex.refl H)
  have l1 : 1 ≤ z.length := by
    rcases Nat.eq_zero_or_pos z.length with h | h
    · exfalso
      refine c1 (TL.ext_tl ?_)
      rw [TL.len_tl] at h
      rw [List.length_eq_zero_iff.mp h]
      decide +kernel
    · exact h
  refine iteT' (by rw [decide_eq_false (fun w => c1 (by injection w))]; rfl) ?_
  refine et_use (b := lettersB z) (et_B (ev_is (ev_allN (bs := (List.range z.cps.size).map fun i => (decide (97 ≤ z.cps.getD i 0) && decide (z.cps.getD i 0 ≤ 122))) ?_) (by rw [lett_all]))) fun H1 e1 => ?_
  · have c := el_lcS (σ := start N__law_letters [.str z]) (H := H) (z := z) (tl := tVar 0) (te := tChain (fun x y H Q => ∃ i j, x = V.str i ∧ y = V.str j ∧ Q (V.bl !decide (j.cps.toList < i.cps.toList)) H) (fun x y H Q => ∃ i j, x = V.str i ∧ y = V.str j ∧ Q (V.bl !decide (j.cps.toList < i.cps.toList)) H) (tC (V.str "a")) (tVar 1) (tC (V.str "z"))) (j := 1) (vs := [1]) (fun i => .bl (decide (97 ≤ z.cps.getD i 0) && decide (z.cps.getD i 0 ≤ 122))) (ev_var rfl) hz (fun x => rfl) (fun i c H3 e3 hi => ?_)
    · rw [List.map_map]
      exact c
    · have e : z.cps.getD i 0 = c := by simp [Array.getD_eq_getD_getElem?, hi]
      rw [e]
      intro H4 e4 Q' q'
      refine ⟨_, rfl, "a", ⟨#[c]⟩, rfl, rfl, _, rfl, ?_⟩
      rw [le_a]
      by_cases h1 : 97 ≤ c
      · refine iteT' (decide_eq_true h1) ⟨⟨#[c]⟩, "z", rfl, rfl, ?_⟩
        rw [le_z]
        rw [decide_eq_true h1, Bool.true_and] at q'
        exact q' H4 (Ex.refl H4)
      · refine iteF' (decide_eq_false h1) ?_
        rw [decide_eq_false h1, Bool.false_and] at q'
        exact q' H4 (Ex.refl H4)
  cases c3 : lettersB z with
  | false =>
    refine iteF' rfl ?_
    exact fin (by unfold letV lettS; rw [c3, Bool.and_false]; rfl) H1 e1
  | true =>
    refine iteT' rfl ⟨_, rfl, ?_⟩
    exact fin (by unfold letV lettS; rw [c3, decide_eq_true l1]; rfl) H1 e1
theorem ok__law_class (T : Tp w K mg) : FnOk P w K mg base CX0 1 T.f__law_class T.d__law_class ["_law_caught"] (spCls T.C_NoText T.C_NoBook) := by
  refine T.F__law_class.ok sc__law_class (fun vs H Q E h => ?_) (fun cdv A outer s H vs Q E hr h => ?_)
  · obtain ⟨a, rfl, _⟩ := h
    rfl
  obtain ⟨a, rfl, h⟩ := h
  refine ⟨_, (pss_cons (ps_if (pt_not (pt_val (pe_callB (isxK (K := K) rfl) rfl T.z_isinstance (by decide +kernel) (pa_cons (pv 0) (pa_cons (pe_bltn (v := .ty "ValueError") rfl T.z_ValueError (by decide +kernel) rfl) pa_nil (star1 rfl)) (star1 rfl)) (by decide) (by decide) (star1 rfl) (starAll rfl)))) (pss_one (ps_ret pe_str)) pss_nil)
  (pss_cons (ps_if (pt_val (pe_callB (isxTK (K := K) rfl) rfl T.z_isinstance (by decide +kernel) (pa_cons (pv 0) (pa_cons (pe_tup (pa_cons (pe_glob (v := .ref T.C_Endless) rfl T.mc_Endless rfl) (pa_cons (pe_glob (v := .ref T.C_NoBounds) rfl T.mc_NoBounds rfl) (pa_cons (pe_glob (v := .ref T.C_NoHouse) rfl T.mc_NoHouse rfl) (pa_cons (pe_glob (v := .ref T.C_NoLine) rfl T.mc_NoLine rfl) (pa_cons (pe_glob (v := .ref T.C_NoName) rfl T.mc_NoName rfl) (pa_cons (pe_glob (v := .ref T.C_NoScript) rfl T.mc_NoScript rfl) (pa_cons (pe_glob (v := .ref T.C_NoStep) rfl T.mc_NoStep rfl) (pa_cons (pe_glob (v := .ref T.C_NotWaiting) rfl T.mc_NotWaiting rfl) (pa_cons (pe_glob (v := .ref T.C_TooMany) rfl T.mc_TooMany rfl) (pa_cons (pe_glob (v := .ref T.C_Uneven) rfl T.mc_Uneven rfl) pa_nil (star1 rfl)) (star1 rfl)) (star1 rfl)) (star1 rfl)) (star1 rfl)) (star1 rfl)) (star1 rfl)) (star1 rfl)) (star1 rfl)) (star1 rfl))) pa_nil (star1 rfl)) (star1 rfl)) (by decide) (by decide) (star1 rfl) (starAll rfl))) (pss_one (ps_ret pe_str)) pss_nil)
  (pss_cons (ps_set (i := 1) sc__law_class.nd rfl (Or.inl rfl) (pe_lst (pa_cons (pe_callB (isxK (K := K) rfl) rfl T.z_isinstance (by decide +kernel) (pa_cons (pv 0) (pa_cons (pe_glob (v := .ref T.C_NoText) rfl T.mc_NoText rfl) pa_nil (star1 rfl)) (star1 rfl)) (by decide) (by decide) (star1 rfl) (starAll rfl)) (pa_cons (pe_callB (isxK (K := K) rfl) rfl T.z_isinstance (by decide +kernel) (pa_cons (pv 0) (pa_cons (pe_glob (v := .ref T.C_NoPlan) rfl T.mc_NoPlan rfl) pa_nil (star1 rfl)) (star1 rfl)) (by decide) (by decide) (star1 rfl) (starAll rfl)) (pa_cons (pe_callB (isxK (K := K) rfl) rfl T.z_isinstance (by decide +kernel) (pa_cons (pv 0) (pa_cons (pe_glob (v := .ref T.C_NoBook) rfl T.mc_NoBook rfl) pa_nil (star1 rfl)) (star1 rfl)) (by decide) (by decide) (star1 rfl) (starAll rfl)) pa_nil (star1 rfl)) (star1 rfl)) (star1 rfl))))
  (pss_cons (ps_if (pt_cmpR (eqDK (K := K) rfl (hu_e64 hr)) (pv 1) (pe_lst (pa_cons pe_bl (pa_cons pe_bl (pa_cons pe_bl pa_nil (star1 rfl)) (star1 rfl)) (star1 rfl))) (nomark _)) (pss_one (ps_ret (pe_tup (pa_cons pe_str (pa_cons (pe_xk T.xc_NoText.xf T.na_NoText_row (pv 0) rfl) pa_nil (star1 rfl)) (star1 rfl))))) pss_nil)
  (pss_one (ps_ret (pe_ifExp (pt_cmpR op_eq (pe_bm PySem.F.plainAttrs_list PySem.F.slot_list_count PySem.F.type_list_count (mt_countK (K := K) rfl) (pv 1) (pa_cons pe_bl pa_nil (star1 rfl))) pe_int (nomark _)) (pe_dget2 (hu_of hr) (pe_disp (pps_cons pe_int pe_str (pps_cons pe_int pe_str pps_nil)) (by rfl) (by rfl) (fun z => by cases z) (by decide)) (pe_bm PySem.F.plainAttrs_list PySem.F.slot_list_index PySem.F.type_list_index (mt_indexDK (K := K) rfl (hu_e65 hr)) (pv 1) (pa_cons pe_bl pa_nil (star1 rfl))) pe_str ⟨rfl, rfl, rfl, rfl⟩) pe_str))))))), ?_⟩
  rcases h with ⟨dd, i, ha, hdd, q⟩ | ⟨ha, q⟩
  · obtain ⟨k1, k2, k3, k4, k5⟩ := kitT89 T
    have xc := T.xc_NoText
    have x : XcAt H a T.C_NoText (some dd) := ⟨ha, fun d' z => by cases z; exact ⟨_, hdd⟩⟩
    refine q_when (b := false) (et_is (et_not (et_B (ev_isx rfl x xc (.ty _) k5))) rfl) (fun h => by cases h) (fun _ H1 e1 => ?_)
    refine q_when (b := false) (et_B (ev_isxT (cs := [T.C_Endless, T.C_NoBounds, T.C_NoHouse, T.C_NoLine, T.C_NoName, T.C_NoScript, T.C_NoStep, T.C_NotWaiting, T.C_TooMany, T.C_Uneven]) rfl (x.ex e1) xc (ea_cons ev_c (ea_cons ev_c (ea_cons ev_c (ea_cons ev_c (ea_cons ev_c (ea_cons ev_c (ea_cons ev_c (ea_cons ev_c (ea_cons ev_c (ea_cons ev_c ea_nil)))))))))) (by simp) k1)) (fun h => by cases h) (fun _ H2 e2 => ?_)
    have x2 := x.ex (e1.trans e2)
    refine q_asgP (lst_raw ?_)
    refine (ea_cons (ev_isx rfl x2 xc (.own _) k2) (ea_cons (ev_isx rfl x2 xc (.own _) k3) (ea_cons (ev_isx rfl x2 xc (.own _) k4) ea_nil))) H2 (Ex.refl H2) _ fun H3 e3 => ⟨(by show 3 ≤ sizeLine; decide), fun l hl => ?_⟩
    have e4 := Ex.new (o := .lst [.bl true, .bl false, .bl false]) hl
    have hl4 : upd H3 l (.lst [.bl true, .bl false, .bl false]) l = some (.lst [.bl true, .bl false, .bl false]) := upd_same
    have e04 := ((e1.trans e2).trans e3).trans e4
    generalize upd H3 l (.lst [.bl true, .bl false, .bl false]) = H4 at e04 hl4 ⊢
    refine q_ifQ (tst_raw ⟨_, rfl, (by show 3 ≤ sizeLine; decide), fun l2 hl2 => ?_⟩)
    have e5 := Ex.new (o := .lst [.bl true, .bl false, .bl false]) hl2
    refine ⟨.list [.bool true, .bool false, .bool false], .list [.bool true, .bool false, .bool false], .lst (sq_of (e5 _ _ hl4)) (.cons (.bl _) (.cons (.bl _) (.cons (.bl _) .nil))), .lst (sq_of upd_same) (.cons (.bl _) (.cons (.bl _) (.cons (.bl _) .nil))), by decide +kernel, by decide +kernel, _, rfl, ?_⟩
    refine iteT' (by decide +kernel) ?_
    refine s_retP ?_
    have e05 := e04.trans e5
    refine ⟨.ref a, rfl, a, dd, _, .int i, rfl, e05 _ _ ha, e05 _ _ hdd, by simp [List.lookup], (by show 2 ≤ sizeLine; decide), fun p hp => ?_⟩
    exact q p _ (e05.trans (Ex.new hp)) (fresh_back e05 hp) upd_same
  · obtain ⟨k1, k2, k3, k4, k5⟩ := kitP89 T
    have xc := T.xc_NoBook
    have x : XcAt H a T.C_NoBook none := ⟨ha, fun d' z => by cases z⟩
    refine q_when (b := false) (et_is (et_not (et_B (ev_isx rfl x xc (.ty _) k5))) rfl) (fun h => by cases h) (fun _ H1 e1 => ?_)
    refine q_when (b := false) (et_B (ev_isxT (cs := [T.C_Endless, T.C_NoBounds, T.C_NoHouse, T.C_NoLine, T.C_NoName, T.C_NoScript, T.C_NoStep, T.C_NotWaiting, T.C_TooMany, T.C_Uneven]) rfl (x.ex e1) xc (ea_cons ev_c (ea_cons ev_c (ea_cons ev_c (ea_cons ev_c (ea_cons ev_c (ea_cons ev_c (ea_cons ev_c (ea_cons ev_c (ea_cons ev_c (ea_cons ev_c ea_nil)))))))))) (by simp) k1)) (fun h => by cases h) (fun _ H2 e2 => ?_)
    have x2 := x.ex (e1.trans e2)
    refine q_asgP (lst_raw ?_)
    refine (ea_cons (ev_isx rfl x2 xc (.own _) k2) (ea_cons (ev_isx rfl x2 xc (.own _) k3) (ea_cons (ev_isx rfl x2 xc (.own _) k4) ea_nil))) H2 (Ex.refl H2) _ fun H3 e3 => ⟨(by show 3 ≤ sizeLine; decide), fun l hl => ?_⟩
    have e4 := Ex.new (o := .lst [.bl false, .bl false, .bl true]) hl
    have hl4 : upd H3 l (.lst [.bl false, .bl false, .bl true]) l = some (.lst [.bl false, .bl false, .bl true]) := upd_same
    have e04 := ((e1.trans e2).trans e3).trans e4
    generalize upd H3 l (.lst [.bl false, .bl false, .bl true]) = H4 at e04 hl4 ⊢
    refine q_ifQ (tst_raw ⟨_, rfl, (by show 3 ≤ sizeLine; decide), fun l2 hl2 => ?_⟩)
    have e5 := Ex.new (o := .lst [.bl true, .bl false, .bl false]) hl2
    refine ⟨.list [.bool false, .bool false, .bool true], .list [.bool true, .bool false, .bool false], .lst (sq_of (e5 _ _ hl4)) (.cons (.bl _) (.cons (.bl _) (.cons (.bl _) .nil))), .lst (sq_of upd_same) (.cons (.bl _) (.cons (.bl _) (.cons (.bl _) .nil))), by decide +kernel, by decide +kernel, _, rfl, ?_⟩
    refine iteF' (by decide +kernel) ?_
    have e05 := e04.trans e5
    have hl5 := e5 _ _ hl4
    generalize upd H4 l2 (.lst [.bl true, .bl false, .bl false]) = H5 at e05 hl5 ⊢
    refine s_retP (if_raw (tst_raw ?_))
    refine ⟨.ref l, rfl, Or.inl ⟨rfl, _, sq_of hl5⟩, l, _, .bl true, rfl, rfl, sq_of hl5, rfl, rfl, rfl, _, rfl, ?_⟩
    refine iteT' (by decide +kernel) ?_
    intro p hp
    refine ⟨upd_same, [(.inl 1, .str "plan"), (.inl 2, .str "book")], rfl, by decide, p, rfl, Or.inl ⟨[(.inl 1, .str "plan"), (.inl 2, .str "book")], Or.inl upd_same⟩, ?_⟩
    have e6 : Ex H5 (upd (upd H5 p (.dK [])) p (.dK (mergeK [] [(.inl 1, .str "plan"), (.inl 2, .str "book")]))) := Ex.mut (Ex.new hp) hp
    have hd6 : upd (upd H5 p (.dK [])) p (.dK (mergeK [] [(.inl 1, .str "plan"), (.inl 2, .str "book")])) p = some (.dK [(.inl 1, .str "plan"), (.inl 2, .str "book")]) := upd_same
    generalize upd (upd H5 p (.dK [])) p (.dK (mergeK [] [(.inl 1, .str "plan"), (.inl 2, .str "book")])) = H6 at e6 hd6 ⊢
    have hl6 := e6 _ _ hl5
    refine ⟨.ref l, rfl, Or.inl ⟨rfl, _, sq_of hl6⟩, l, .bl true, .bool true, [.bool false, .bool false, .bool true], 2, .bool true, rfl, rfl, .lst (sq_of hl6) (.cons (.bl _) (.cons (.bl _) (.cons (.bl _) .nil))), .bl _, by decide +kernel, by decide +kernel, rfl, by decide +kernel, fun m z' hm hz => ?_, ?_⟩
    · have : m = 0 ∨ m = 1 := by omega
      rcases this with rfl | rfl <;> (cases hz; decide +kernel)
    exact ⟨_, DGet.k (k := .inl 2) hd6, q _ (e05.trans e6)⟩
end
/-! ### due; words and signs changed -/
def Chg (ws ss zs : List Str) : Prop := zs.length ≤ ws.length + 1 ∧ (∀ z ∈ zs, z ∈ ws ∨ z ∈ ss) ∧ ∀ (f : Str → Nat) (B : Nat), (∀ z ∈ ws, f z ≤ B) → (∀ z ∈ ss, f z ≤ B) → (zs.map f).sum ≤ (ws.map f).sum + B
section
variable {K : PySem.W.Frag} {σ : L2.St} {H0 : Hp}
/-- evaluates to a list of these texts; fr: a new one -/
def SLs (K : PySem.W.Frag) (σ : L2.St) (H0 : Hp) (fr : Bool) (te : TE) (zs : List Str) : Prop := ∀ (H : Hp) (Q : VK), Ex H0 H → (∀ p H', Ex H H' → H' p = some (.lst (zs.map V.str)) → (fr = true → H p = none) → Q (.ref p) H') → te σ H Q
theorem sl_var {i : Nat} {p : Addr} {zs : List Str} (h : σ[i]? = some (some (.ref p))) (hp : H0 p = some (.lst (zs.map V.str))) : SLs K σ H0 false (tVar i) zs := fun H Q e q => ⟨_, h, q _ H (Ex.refl H) (e _ _ hp) fun h => by cases h⟩
theorem sl_cut {fr : Bool} {te : TE} {lo hi : TO} {l u : Option Int} {zs es : List Str} (h : SLs K σ H0 fr te zs) (hlo : ∀ (H : Hp) (R : Option Int → Hp → Prop), R l H → lo σ H R) (hhi : ∀ (H : Hp) (R : Option Int → Hp → Prop), R u H → hi σ H R)
    (hc : cutV (zs.map V.str) l u = es.map V.str) : SLs K σ H0 true (tSl (rSlL K) te lo hi) es := fun H Q e q =>
  h H _ e fun p H1 e1 hp _ => hlo H1 _ (hhi H1 _ ⟨p, _, rfl, sq_of hp, fun r hr => q r _ (e1.trans (Ex.new hr)) (by rw [upd_same, hc]) fun _ => fresh_back e1 hr⟩)
theorem sl_cat {f1 f2 : Bool} {ta tb : TE} {zs ys : List Str} (h : SLs K σ H0 f1 ta zs) (h2 : SLs K σ H0 f2 tb ys) (hl : zs.length + ys.length ≤ 100000) : SLs K σ H0 true (tOp rCat ta tb) (zs ++ ys) := fun H Q e q =>
  h H _ e fun p H1 e1 hp _ => h2 H1 _ (e.trans e1) fun p2 H2 e2 hp2 _ => ⟨p, p2, _, _, rfl, rfl, e2 _ _ hp, hp2, sz_of (by rw [List.length_map, List.length_map]; omega), fun r hr =>
    q r _ ((e1.trans e2).trans (Ex.new hr)) (by rw [upd_same, List.map_append]) fun _ => fresh_back (e1.trans e2) hr⟩
theorem sl_rev {fr : Bool} {te : TE} {zs : List Str} (h : SLs K σ H0 fr te zs) : SLs K σ H0 true (tRevL K te) zs.reverse := fun H Q e q =>
  h H _ e fun p H1 e1 hp _ => ⟨p, _, rfl, sq_of hp, fun r hr => q r _ (e1.trans (Ex.new hr)) (by rw [upd_same, List.map_reverse]) fun _ => fresh_back e1 hr⟩
theorem sl_one {i : Nat} {x : Str} (hσ : σ[i]? = some (some (.str x))) : SLs K σ H0 true (tLst (tCons (tVar i) tNil)) [x] := fun H Q e q =>
  ⟨_, hσ, (by show 1 ≤ sizeLine; decide), fun r hr => q r _ (Ex.new hr) upd_same fun _ => hr⟩
theorem cut_toA {zs : List Str} {i : Nat} : cutV (zs.map V.str) none (some (i : Int)) = (zs.take i).map V.str := by
  unfold cutV
  rw [HT.sIx_none, HT.sIx_nat, List.map_take]
  by_cases h : i ≤ (zs.map V.str).length
  · rw [Nat.min_eq_left h]
    simp
  · rw [Nat.min_eq_right (by omega), List.take_of_length_le (i := i) (l := zs.map V.str) (by omega), Nat.sub_zero, List.drop_zero, List.take_length]
theorem cut_fromA {zs : List Str} {i : Nat} : cutV (zs.map V.str) (some (i : Int)) none = (zs.drop i).map V.str := by
  rw [NL.cut_from, List.map_drop]
theorem cut_midA {zs : List Str} {i : Nat} : cutV (zs.map V.str) (some (i : Int)) (some ((i : Int) + 2)) = ((zs.drop i).take 2).map V.str := by
  rw [show ((i : Int) + 2) = ((i + 2 : Nat) : Int) from by omega]
  unfold cutV
  rw [HT.sIx_nat, HT.sIx_nat, List.map_take, List.map_drop]
  by_cases h : i ≤ (zs.map V.str).length
  · rw [Nat.min_eq_left h]
    by_cases h2 : i + 2 ≤ (zs.map V.str).length
    · rw [Nat.min_eq_left h2, show i + 2 - i = 2 from by omega]
    · rw [Nat.min_eq_right (by omega), List.take_of_length_le (by rw [List.length_drop]; omega), List.take_of_length_le (by rw [List.length_drop]; omega)]
  · rw [Nat.min_eq_right (show (zs.map V.str).length ≤ i + 2 by omega), Nat.min_eq_right (show (zs.map V.str).length ≤ i by omega), List.drop_of_length_le (Nat.le_refl _), List.drop_of_length_le (show (zs.map V.str).length ≤ i by omega)]
    simp
end
section
variable {α : Type} {f : α → Nat} {ws : List α}
theorem td_sum (i : Nat) : ((ws.take i).map f).sum + ((ws.drop i).map f).sum = (ws.map f).sum := by
  rw [← List.sum_append, ← List.map_append, List.take_append_drop]
theorem dd_sum {i j : Nat} (h : i ≤ j) : ((ws.drop j).map f).sum ≤ ((ws.drop i).map f).sum := by
  have := td_sum (f := f) (ws := ws.drop i) (j - i)
  rw [List.drop_drop, show i + (j - i) = j from by omega] at this
  omega
theorem tt_sum {B : Nat} (hB : ∀ z ∈ ws, f z ≤ B) (i : Nat) : ((ws.take (i + 1)).map f).sum ≤ ((ws.take i).map f).sum + B := by
  rw [List.take_succ]
  cases h : ws[i]? with
  | none => simp
  | some z =>
    have := hB z (List.mem_of_getElem? h)
    simp only [Option.toList_some, List.map_append, List.map_cons, List.map_nil, List.sum_append, List.sum_cons, List.sum_nil]
    omega
end
section
variable {ws : List Str}
theorem chg0 {ss : List Str} (i : Nat) : Chg ws ss (ws.take i ++ ws.drop (i + 1)) := by
  refine ⟨?_, fun z hz => ?_, fun f B h1 h2 => ?_⟩
  · rw [List.length_append, List.length_take, List.length_drop]
    omega
  · rcases List.mem_append.mp hz with h | h
    · exact Or.inl (List.mem_of_mem_take h)
    · exact Or.inl (List.mem_of_mem_drop h)
  · have h3 := td_sum (f := f) (ws := ws) i
    have h4 := dd_sum (f := f) (ws := ws) (show i ≤ i + 1 by omega)
    rw [List.map_append, List.sum_append]
    omega
theorem chg1 {ss : List Str} (i : Nat) : Chg ws ss (ws.take (i + 1) ++ ws.drop i) := by
  refine ⟨?_, fun z hz => ?_, fun f B h1 h2 => ?_⟩
  · rw [List.length_append, List.length_take, List.length_drop]
    omega
  · rcases List.mem_append.mp hz with h | h
    · exact Or.inl (List.mem_of_mem_take h)
    · exact Or.inl (List.mem_of_mem_drop h)
  · have h3 := td_sum (f := f) (ws := ws) i
    have h4 := tt_sum h1 i
    rw [List.map_append, List.sum_append]
    omega
theorem chg2 {ss : List Str} (i : Nat) : Chg ws ss (ws.take i ++ ((ws.drop i).take 2).reverse ++ ws.drop (i + 2)) := by
  refine ⟨?_, fun z hz => ?_, fun f B h1 h2 => ?_⟩
  · rw [List.length_append, List.length_append, List.length_reverse, List.length_take, List.length_take, List.length_drop, List.length_drop]
    omega
  · rcases List.mem_append.mp hz with h | h
    · rcases List.mem_append.mp h with h | h
      · exact Or.inl (List.mem_of_mem_take h)
      · exact Or.inl (List.mem_of_mem_drop (List.mem_of_mem_take (List.mem_reverse.mp h)))
    · exact Or.inl (List.mem_of_mem_drop h)
  · have h3 := td_sum (f := f) (ws := ws) i
    have h4 := td_sum (f := f) (ws := ws.drop i) 2
    rw [List.drop_drop] at h4
    rw [List.map_append, List.map_append, List.sum_append, List.sum_append, List.map_reverse, List.sum_reverse]
    omega
theorem chg3 {ss : List Str} {x : Str} (hx : x ∈ ss) (i j : Nat) (h : i ≤ j) : Chg ws ss (ws.take i ++ [x] ++ ws.drop j) := by
  refine ⟨?_, fun z hz => ?_, fun f B h1 h2 => ?_⟩
  · rw [List.length_append, List.length_append, List.length_take, List.length_drop, List.length_singleton]
    omega
  · rcases List.mem_append.mp hz with h | h
    · rcases List.mem_append.mp h with h | h
      · exact Or.inl (List.mem_of_mem_take h)
      · rw [List.mem_singleton.mp h]
        exact Or.inr hx
    · exact Or.inl (List.mem_of_mem_drop h)
  · have h3 := td_sum (f := f) (ws := ws) i
    have h4 := dd_sum (f := f) (ws := ws) h
    have h5 := h2 x hx
    simp only [List.map_append, List.sum_append, List.map_cons, List.map_nil, List.sum_cons, List.sum_nil]
    omega
end
def mz (f : Nat → Nat) (z : Str) : Nat := (z.cps.toList.map f).sum
theorem mz_app (f : Nat → Nat) (x y : Str) : mz f (x ++ y) = mz f x + mz f y := by
  have := TL.tl_append x y
  unfold mz
  rw [show (x ++ y).cps.toList = x.cps.toList ++ y.cps.toList from this, List.map_append, List.sum_append]
theorem cutS_to {z : Str} {i : Nat} : (cutS z none (some (i : Int))).cps.toList = z.cps.toList.take i := by
  have hl : z.cps.toList.length = z.length := by simp [Str.length]
  unfold cutS
  rw [HT.sIx_none, HT.sIx_nat]
  simp only [List.drop_zero, Nat.sub_zero, List.toList_toArray]
  by_cases h : i ≤ z.length
  · rw [Nat.min_eq_left h]
  · rw [Nat.min_eq_right (by omega), List.take_of_length_le (by omega), List.take_of_length_le (by omega)]
theorem cutS_from {z : Str} {i : Nat} : (cutS z (some (i : Int)) none).cps.toList = z.cps.toList.drop i := by
  have hl : z.cps.toList.length = z.length := by simp [Str.length]
  unfold cutS
  rw [HT.sIx_none, HT.sIx_nat]
  simp only [List.toList_toArray]
  by_cases h : i ≤ z.length
  · rw [Nat.min_eq_left h, List.take_of_length_le (by rw [List.length_drop]; omega)]
  · rw [Nat.min_eq_right (by omega), List.drop_of_length_le (by omega), List.drop_of_length_le (by omega)]
    simp
theorem mz_to (f : Nat → Nat) {z : Str} {i : Nat} : mz f (cutS z none (some (i : Int))) = ((z.cps.toList.take i).map f).sum := by unfold mz; rw [cutS_to]
theorem mz_from (f : Nat → Nat) {z : Str} {i : Nat} : mz f (cutS z (some (i : Int)) none) = ((z.cps.toList.drop i).map f).sum := by unfold mz; rw [cutS_from]
def spWc : Sp := fun vs H Q _ => ∃ (h l a b : Addr) (ws ss : List Str), vs = [.ref h, .ref a, .ref b] ∧ Hand H h l ∧ H a = some (.lst (ws.map V.str)) ∧ H b = some (.lst (ss.map V.str)) ∧ a ≠ h ∧ a ≠ l ∧ b ≠ h ∧ b ≠ l ∧ ws.length ≤ 40000 ∧ 1 ≤ ss.length ∧ ss.length ≤ 1000 ∧
  ∀ r zs H', Hand H' h l → Kp h l H H' → H' r = some (.lst (zs.map V.str)) → r ≠ h → r ≠ l → Chg ws ss zs → Q (.ref r) H'
def spSc : Sp := fun vs H Q _ => ∃ (h l : Addr) (z : Str), vs = [.ref h, .str z] ∧ Hand H h l ∧ z.length ≤ 40000 ∧
  ∀ z' H', Hand H' h l → Kp h l H H' → (∀ f : Nat → Nat, (∀ c, f c ≤ 1) → mz f z' ≤ mz f z + 1) → Q (.str z') H'
section
variable {P : Program} {w : World} {K : PySem.W.Frag} {mg : Str → Option Value} {base : Heap}
theorem ok__law_words_changed (T : Tp w K mg) : FnOk P w K mg base CX0 3 T.f__law_words_changed T.d__law_words_changed ["_law_hand_here", "_law_words", "_law_some"] spWc := by
  refine T.F__law_words_changed.ok sc__law_words_changed (fun vs H Q E h => ?_) (fun cdv A outer s H vs Q E hr h => ?_)
  · obtain ⟨h, l, a, b, ws, ss, rfl, _⟩ := h
    rfl
  obtain ⟨h, l, a, b, ws, ss, rfl, A0, ha, hb, ah, al, bh, bl, wl, s1, s2, q⟩ := h
  refine ⟨_, (pss_cons (ps_par rfl sc__law_words_changed.nd (i := 3) (j := 4) rfl rfl (by decide) rfl rfl (pa_cons (pe_call (ok__law_pick T) (hr.mono (by decide)) rfl T.m__law_pick T.F__law_pick.kp (b__law_pick T) .nil pass0 (pa_cons (pv 0) (pa_cons (pe_op op_add (pe_callB call_len rfl T.z_len PySem.boot_len (pa_cons (pv 1) pa_nil (star1 rfl)) (by decide) (by decide) (star1 rfl) (starAll rfl)) pe_int) pa_nil (star1 rfl)) (star1 rfl)) (by decide) (star1 rfl) (starAll rfl)) (pa_cons (pe_call (ok__law_pick T) (hr.mono (by decide)) rfl T.m__law_pick T.F__law_pick.kp (b__law_pick T) .nil pass0 (pa_cons (pv 0) (pa_cons pe_int pa_nil (star1 rfl)) (star1 rfl)) (by decide) (star1 rfl) (starAll rfl)) pa_nil (star1 rfl)) (star1 rfl)) (by rfl))
  (pss_cons (ps_set (i := 5) sc__law_words_changed.nd rfl (Or.inl rfl) (pe_call (ok__law_of T) (hr.mono (by decide)) rfl T.m__law_of T.F__law_of.kp (b__law_of T) .nil pass0 (pa_cons (pv 0) (pa_cons (pv 2) pa_nil (star1 rfl)) (star1 rfl)) (by decide) (star1 rfl) (starAll rfl)))
  (pss_cons (ps_if (pt_cmpR op_eq (pv 4) pe_int (nomark _)) (pss_one (ps_ret (pe_op op_cat (pe_slice sl_list (pv 1) po_none (po_some (pv 3))) (pe_slice sl_list (pv 1) (po_some (pe_op op_add (pv 3) pe_int)) po_none)))) pss_nil)
  (pss_cons (ps_if (pt_cmpR op_eq (pv 4) pe_int (nomark _)) (pss_one (ps_ret (pe_op op_cat (pe_slice sl_list (pv 1) po_none (po_some (pe_op op_add (pv 3) pe_int))) (pe_slice sl_list (pv 1) (po_some (pv 3)) po_none)))) pss_nil)
  (pss_cons (ps_if (pt_cmpR op_eq (pv 4) pe_int (nomark _)) (pss_one (ps_ret (pe_op op_cat (pe_op op_cat (pe_slice sl_list (pv 1) po_none (po_some (pv 3))) (pe_revL (pe_slice sl_list (pv 1) (po_some (pv 3)) (po_some (pe_op op_add (pv 3) pe_int))))) (pe_slice sl_list (pv 1) (po_some (pe_op op_add (pv 3) pe_int)) po_none)))) pss_nil)
  (pss_one (ps_ret (pe_op op_cat (pe_op op_cat (pe_slice sl_list (pv 1) po_none (po_some (pv 3))) (pe_lst (pa_cons (pv 5) pa_nil (star1 rfl)))) (pe_slice sl_list (pv 1) (po_some (pe_op op_sub (pe_op op_add (pv 3) (pv 4)) pe_int)) po_none))))))))), ?_⟩
  refine q_parP ?_
  refine ⟨_, rfl, _, rfl, .ref a, ws.length, rfl, Or.inl ⟨_, sq_of ha, by rw [List.length_map]⟩, _, _, rfl, rfl, h, l, ((ws.length : Int) + 1), rfl, A0, by omega, by omega, fun r1 H1 r10 r11 A1 k1 => ?_⟩
  refine ⟨_, rfl, h, l, 5, rfl, A1, by decide, by decide, fun r2 H2 r20 r21 A2 k2 => ?_⟩
  have k12 := k1.trans k2
  refine ⟨_, _, rfl, ?_⟩
  refine q_asgP ?_
  refine ⟨_, rfl, _, rfl, of_list (E := E0) A2 (k12 b _ bh bl hb) bh bl (by rw [List.length_map]; omega) (by rw [List.length_map]; omega) fun v H3 hv A3 k3 => ?_⟩
  obtain ⟨x, hx, rfl⟩ := List.mem_map.mp hv
  have k13 := k12.trans k3
  have ha3 := k13 a _ ah al ha
  obtain ⟨i, rfl⟩ : ∃ i : Nat, r1 = i := ⟨r1.toNat, by omega⟩
  have fin : ∀ {te : TE} {zs : List Str} {D : Ends} {σ : L2.St}, SLs K σ H3 true te zs → Chg ws ss zs → D.rt = Q → tRet te D σ H3 := fun hs hc hD => hs H3 _ (Ex.refl H3) fun p H4 e4 hp hn => by
    obtain ⟨n1, n2⟩ := A3.fresh (hn rfl)
    rw [hD]
    exact q p _ H4 (A3.ex e4) (k13.trans (Kp.ex e4)) hp n1 n2 hc
  have wa : SLs K [some (.ref h), some (.ref a), some (.ref b), some (.int (i : Int)), some (.int r2), some (.str x)] H3 false (tVar 1) ws := sl_var rfl ha3
  refine q_ifQ (tst_raw ⟨_, rfl, rfl, _, rfl, ?_⟩)
  by_cases c0 : r2 = 0
  · refine iteT' (by rw [c0]; rfl) (fin (sl_cat (sl_cut wa (fun H R q => q) (fun H R q => ⟨_, rfl, _, rfl, q⟩) cut_toA) (sl_cut wa (fun H R q => ⟨_, rfl, _, _, rfl, rfl, _, rfl, q⟩) (fun H R q => q) (cut_fromA (i := i + 1))) (by rw [List.length_take, List.length_drop]; omega)) (chg0 i) rfl)
  refine iteF' (decide_eq_false fun z => c0 (by injection z)) (q_ifQ (tst_raw ⟨_, rfl, rfl, _, rfl, ?_⟩))
  by_cases c1 : r2 = 1
  · refine iteT' (by rw [c1]; rfl) (fin (sl_cat (sl_cut wa (fun H R q => q) (fun H R q => ⟨_, rfl, _, _, rfl, rfl, _, rfl, q⟩) (cut_toA (i := i + 1))) (sl_cut wa (fun H R q => ⟨_, rfl, _, rfl, q⟩) (fun H R q => q) (cut_fromA (i := i))) (by rw [List.length_take, List.length_drop]; omega)) (chg1 i) rfl)
  refine iteF' (decide_eq_false fun z => c1 (by injection z)) (q_ifQ (tst_raw ⟨_, rfl, rfl, _, rfl, ?_⟩))
  by_cases c2 : r2 = 2
  · refine iteT' (by rw [c2]; rfl) (fin (sl_cat (sl_cat (sl_cut wa (fun H R q => q) (fun H R q => ⟨_, rfl, _, rfl, q⟩) cut_toA) (sl_rev (sl_cut wa (fun H R q => ⟨_, rfl, _, rfl, q⟩) (fun H R q => ⟨_, rfl, _, _, rfl, rfl, _, rfl, q⟩) cut_midA)) (by rw [List.length_reverse, List.length_take, List.length_take, List.length_drop]; omega)) (sl_cut wa (fun H R q => ⟨_, rfl, _, _, rfl, rfl, _, rfl, q⟩) (fun H R q => q) (cut_fromA (i := i + 2))) (by rw [List.length_append, List.length_reverse, List.length_take, List.length_take, List.length_drop, List.length_drop]; omega)) (chg2 i) rfl)
  refine iteF' (decide_eq_false fun z => c2 (by injection z)) ?_
  obtain ⟨j, hj, hij⟩ : ∃ j : Nat, ((i : Int) + r2 - 3) = (j : Int) ∧ i ≤ j := ⟨((i : Int) + r2 - 3).toNat, by omega, by omega⟩
  exact fin (sl_cat (sl_cat (sl_cut wa (fun H R q => q) (fun H R q => ⟨_, rfl, _, rfl, q⟩) cut_toA) (sl_one rfl) (by rw [List.length_take, List.length_singleton]; omega)) (sl_cut wa (fun H R q => ⟨_, rfl, _, rfl, _, _, rfl, rfl, _, _, rfl, rfl, _, rfl, by rw [hj]; exact q⟩) (fun H R q => q) (cut_fromA (i := j))) (by rw [List.length_append, List.length_take, List.length_singleton, List.length_drop]; omega)) (chg3 hx i j hij) rfl
theorem ok__law_sign_changed (T : Tp w K mg) : FnOk P w K mg base CX0 3 T.f__law_sign_changed T.d__law_sign_changed ["_law_hand_here", "_law_text"] spSc := by
  refine T.F__law_sign_changed.ok sc__law_sign_changed (fun vs H Q E h => ?_) (fun cdv A outer s H vs Q E hr h => ?_)
  · obtain ⟨h, l, z, rfl, _⟩ := h
    rfl
  obtain ⟨h, l, z, rfl, A0, zl, q⟩ := h
  refine ⟨_, (pss_cons (ps_par rfl sc__law_sign_changed.nd (i := 2) (j := 3) rfl rfl (by decide) rfl rfl (pa_cons (pe_call (ok__law_pick T) (hr.mono (by decide)) rfl T.m__law_pick T.F__law_pick.kp (b__law_pick T) .nil pass0 (pa_cons (pv 0) (pa_cons (pe_op op_add (pe_callB call_len rfl T.z_len PySem.boot_len (pa_cons (pv 1) pa_nil (star1 rfl)) (by decide) (by decide) (star1 rfl) (starAll rfl)) pe_int) pa_nil (star1 rfl)) (star1 rfl)) (by decide) (star1 rfl) (starAll rfl)) (pa_cons (pe_call (ok__law_pick T) (hr.mono (by decide)) rfl T.m__law_pick T.F__law_pick.kp (b__law_pick T) .nil pass0 (pa_cons (pv 0) (pa_cons pe_int pa_nil (star1 rfl)) (star1 rfl)) (by decide) (star1 rfl) (starAll rfl)) pa_nil (star1 rfl)) (star1 rfl)) (by rfl))
  (pss_cons (ps_set (i := 4) sc__law_sign_changed.nd rfl (Or.inl rfl) (pe_call (ok__law_of T) (hr.mono (by decide)) rfl T.m__law_of T.F__law_of.kp (b__law_of T) .nil pass0 (pa_cons (pv 0) (pa_cons pe_str pa_nil (star1 rfl)) (star1 rfl)) (by decide) (star1 rfl) (starAll rfl)))
  (pss_cons (ps_if (pt_cmpR op_eq (pv 3) pe_int (nomark _)) (pss_one (ps_ret (pe_op op_add_str (pe_slice sl_str (pv 1) po_none (po_some (pv 2))) (pe_slice sl_str (pv 1) (po_some (pe_op op_add (pv 2) pe_int)) po_none)))) pss_nil)
  (pss_cons (ps_if (pt_cmpR op_eq (pv 3) pe_int (nomark _)) (pss_one (ps_ret (pe_op op_add_str (pe_slice sl_str (pv 1) po_none (po_some (pe_op op_add (pv 2) pe_int))) (pe_slice sl_str (pv 1) (po_some (pv 2)) po_none)))) pss_nil)
  (pss_one (ps_ret (pe_op op_add_str (pe_op op_add_str (pe_slice sl_str (pv 1) po_none (po_some (pv 2))) (pv 4)) (pe_slice sl_str (pv 1) (po_some (pe_op op_add (pv 2) (pe_op op_fdiv (pv 3) pe_int))) po_none)))))))), ?_⟩
  have zs : z.length ≤ sizeLine := Nat.le_trans zl (by decide)
  refine q_parP ?_
  refine ⟨_, rfl, _, rfl, .str z, z.length, rfl, ⟨zs, rfl⟩, _, _, rfl, rfl, h, l, ((z.length : Int) + 1), rfl, A0, by omega, by omega, fun r1 H1 r10 r11 A1 k1 => ?_⟩
  refine ⟨_, rfl, h, l, 4, rfl, A1, by decide, by decide, fun r2 H2 r20 r21 A2 k2 => ?_⟩
  refine ⟨_, _, rfl, ?_⟩
  refine q_asgP ?_
  refine ⟨_, rfl, of_text (E := E0) A2 (by decide +kernel) (by decide +kernel) fun c H3 hc A3 k3 => ?_⟩
  have k13 := (k1.trans k2).trans k3
  obtain ⟨i, rfl⟩ : ∃ i : Nat, r1 = i := ⟨r1.toNat, by omega⟩
  have cl : ∀ lo hi, (cutS z lo hi).length ≤ 40000 := fun lo hi => Nat.le_trans (cutS_length z lo hi) zl
  have one : (⟨#[c]⟩ : Str).length = 1 := rfl
  have wh : ∀ f : Nat → Nat, mz f z = (z.cps.toList.map f).sum := fun f => rfl
  refine q_ifQ (tst_raw ⟨_, rfl, rfl, _, rfl, ?_⟩)
  by_cases c1 : r2 = 1
  · refine iteT' (by rw [c1]; rfl) (s_retP ?_)
    refine ⟨_, rfl, _, rfl, (i : Int), rfl, z, rfl, zs, _, rfl, _, rfl, _, _, rfl, rfl, _, rfl, z, rfl, zs, _, _, rfl, rfl, sz_of (by have := cl none (some (i : Int)); have := cl (some ((i : Int) + 1)) none; omega), ?_⟩
    refine q _ H3 A3 k13 fun f hf => ?_
    have e : ((i : Int) + 1) = ((i + 1 : Nat) : Int) := by omega
    have h3 := td_sum (f := f) (ws := z.cps.toList) i
    have h4 := dd_sum (f := f) (ws := z.cps.toList) (show i ≤ i + 1 by omega)
    rw [mz_app, e, mz_to, mz_from, wh]
    omega
  refine iteF' (decide_eq_false fun z => c1 (by injection z)) (q_ifQ (tst_raw ⟨_, rfl, rfl, _, rfl, ?_⟩))
  by_cases c3 : r2 = 3
  · refine iteT' (by rw [c3]; rfl) (s_retP ?_)
    refine ⟨_, rfl, _, rfl, _, _, rfl, rfl, _, rfl, z, rfl, zs, _, rfl, _, rfl, (i : Int), rfl, z, rfl, zs, _, _, rfl, rfl, sz_of (by have := cl none (some ((i : Int) + 1)); have := cl (some (i : Int)) none; omega), ?_⟩
    refine q _ H3 A3 k13 fun f hf => ?_
    have e : ((i : Int) + 1) = ((i + 1 : Nat) : Int) := by omega
    have h3 := td_sum (f := f) (ws := z.cps.toList) i
    have h4 := tt_sum (f := f) (ws := z.cps.toList) (B := 1) (fun c _ => hf c) i
    rw [mz_app, e, mz_to, mz_from, wh]
    omega
  refine iteF' (decide_eq_false fun z => c3 (by injection z)) (s_retP ?_)
  obtain ⟨j, hj, hij⟩ : ∃ j : Nat, ((i : Int) + r2 / 2) = (j : Int) ∧ i ≤ j := ⟨((i : Int) + r2 / 2).toNat, by omega, by omega⟩
  refine ⟨_, rfl, _, rfl, (i : Int), rfl, z, rfl, zs, _, rfl, _, _, rfl, rfl, sz_of (by have := cl none (some (i : Int)); omega), _, rfl, _, rfl, _, rfl, _, _, rfl, rfl, ⟨by decide, by decide⟩, _, _, rfl, rfl, _, rfl, z, rfl, zs, _, _, rfl, rfl, sz_of (by have := cl none (some (i : Int)); have := cl (some ((i : Int) + r2 / 2)) none; rw [len_app]; omega), ?_⟩
  refine q _ H3 A3 k13 fun f hf => ?_
  rw [hj]
  have h3 := td_sum (f := f) (ws := z.cps.toList) i
  have h4 := dd_sum (f := f) (ws := z.cps.toList) hij
  have h5 : mz f ⟨#[c]⟩ = f c := by simp [mz]
  have h6 := hf c
  rw [mz_app, mz_app, mz_to, mz_from, wh, h5]
  omega
end
theorem rows_pos (y : Str) : ∃ a r, Txt.split y " " = a :: r := by
  have := PyProof.Rows.split_pos y " "
  cases h : Txt.split y " " with
  | nil => rw [h] at this; exact absurd this (by decide)
  | cons a r => exact ⟨a, r, rfl⟩
/-! ### a text spoilt -/
def nlF (c : Nat) : Nat := if c = 10 then 1 else 0
theorem mz_one (z : Str) : mz (fun _ => 1) z = z.length := by
  unfold mz
  rw [List.map_const', List.sum_replicate_nat]
  simp [Str.length]
theorem mz_join (f : Nat → Nat) (y : Str) : ∀ (p : Str) (r : List Str), mz f (Str.join y (p :: r)) = ((p :: r).map (mz f)).sum + r.length * mz f y
  | p, [] => by
    show mz f p = _
    simp
  | p, x :: r => by
    have ih := mz_join f y x r
    show mz f (p ++ y ++ Str.join y (x :: r)) = _
    rw [mz_app, mz_app, ih]
    simp only [List.map_cons, List.sum_cons, List.length_cons, Nat.succ_mul, Nat.add_mul, Nat.one_mul]
    omega
theorem mz_joinL (f : Nat → Nat) (y : Str) (ps : List Str) : mz f (Txt.join y ps) ≤ (ps.map (mz f)).sum + (ps.length - 1) * mz f y := by
  rw [TL.join_eq]
  cases ps with
  | nil => exact Nat.zero_le _
  | cons p r => exact Nat.le_of_eq (mz_join f y p r)
theorem mz_split (f : Nat → Nat) (x y : Str) : mz f x = ((Txt.split x y).map (mz f)).sum + ((Txt.split x y).length - 1) * mz f y := by
  have h := PyProof.Rows.split_pos x y
  have e := StrLaws.join_split x y
  cases hs : Txt.split x y with
  | nil => rw [hs] at h; exact absurd h (by decide)
  | cons p r =>
    rw [hs] at e
    rw [← e, mz_join]
    rfl
theorem free0 {z x : Str} (h : x ∈ Txt.split z "\n") : mz nlF x = 0 := by
  have := StrLaws.split_free z 10 x (by rw [show (⟨#[10]⟩ : Str) = "\n" from by decide]; exact h)
  unfold mz
  have : ∀ c ∈ x.cps.toList, nlF c = 0 := fun c hc => by
    unfold nlF
    rw [if_neg (fun e => by rw [e] at hc; exact this hc)]
  rw [List.sum_eq_zero_iff_forall_eq_nat]
  intro n hn
  obtain ⟨c, hc, rfl⟩ := List.mem_map.mp hn
  exact this c hc
theorem nl_nl : mz nlF "\n" = 1 := by decide +kernel
theorem nl_sp : mz nlF " " = 0 := by decide +kernel
theorem ln_nl : ("\n" : Str).length = 1 := by decide +kernel
theorem ln_sp : (" " : Str).length = 1 := by decide +kernel
theorem sum_zero {α : Type} {f : α → Nat} {xs : List α} (h : ∀ x ∈ xs, f x = 0) : (xs.map f).sum = 0 := by
  rw [List.sum_eq_zero_iff_forall_eq_nat]
  intro n hn
  obtain ⟨c, hc, rfl⟩ := List.mem_map.mp hn
  exact h c hc
theorem nl_rows (z : Str) : mz nlF z = (Txt.split z "\n").length - 1 := by
  have h := mz_split nlF z "\n"
  rw [sum_zero (fun x hx => free0 hx), nl_nl] at h
  omega
theorem len_rows (z : Str) : z.length = ((Txt.split z "\n").map Str.length).sum + ((Txt.split z "\n").length - 1) := by
  have h := mz_split (fun _ => 1) z "\n"
  rw [mz_one, show mz (fun _ => 1) = Str.length from by funext x; exact mz_one x, ln_nl] at h
  omega
theorem len_wds (z : Str) : z.length = ((Txt.split z " ").map Str.length).sum + ((Txt.split z " ").length - 1) := by
  have h := mz_split (fun _ => 1) z " "
  rw [mz_one, show mz (fun _ => 1) = Str.length from by funext x; exact mz_one x, ln_sp] at h
  omega
theorem len_joinL (y : Str) (hy : y.length = 1) (ps : List Str) : (Txt.join y ps).length ≤ (ps.map Str.length).sum + (ps.length - 1) := by
  have h := mz_joinL (fun _ => 1) y ps
  rw [mz_one, show mz (fun _ => 1) = Str.length from by funext x; exact mz_one x, hy] at h
  omega
theorem way0 {z : Str} {zs ss : List Str} (hc : Chg (Txt.split z "\n") ss zs) (hs : ∀ x ∈ ss, x.length ≤ z.length + 40 ∧ mz nlF x = 0) : (Txt.join "\n" zs).length ≤ 2 * z.length + 60 ∧ mz nlF (Txt.join "\n" zs) ≤ mz nlF z + 1 := by
  obtain ⟨c1, c2, c3⟩ := hc
  have h1 := c3 Str.length (z.length + 40) (fun x hx => Nat.le_trans (split_part hx) (by omega)) (fun x hx => (hs x hx).1)
  have h2 := c3 (mz nlF) 0 (fun x hx => Nat.le_of_eq (free0 hx)) (fun x hx => Nat.le_of_eq (hs x hx).2)
  rw [sum_zero (fun x hx => free0 hx)] at h2
  have h3 := len_joinL "\n" ln_nl zs
  have h4 := mz_joinL nlF "\n" zs
  rw [nl_nl] at h4
  have h5 := len_rows z
  have h6 := nl_rows z
  have h7 := PyProof.Rows.split_pos z "\n"
  omega
theorem wd0 {r x : Str} (h : x ∈ Txt.split r " ") : mz nlF x ≤ mz nlF r := by
  have h1 := mz_split nlF r " "
  have h2 : mz nlF x ≤ ((Txt.split r " ").map (mz nlF)).sum := by
    generalize Txt.split r " " = ws at h
    induction ws with
    | nil => simp at h
    | cons w ws ih =>
      simp only [List.map_cons, List.sum_cons]
      rcases List.mem_cons.mp h with rfl | h
      · omega
      · have := ih h
        omega
  omega
theorem way1 {z row : Str} {i : Nat} {ws ss : List Str} (hi : (Txt.split z "\n")[i]? = some row) (hc : Chg (Txt.split row " ") ss ws) (hs : ∀ x ∈ ss, x.length ≤ row.length + 40 ∧ mz nlF x = 0) :
    (Txt.join " " ws).length ≤ 2 * row.length + 60 ∧ (Txt.join "\n" ((Txt.split z "\n").take i ++ [Txt.join " " ws] ++ (Txt.split z "\n").drop (i + 1))).length ≤ 2 * z.length + 60 ∧ mz nlF (Txt.join "\n" ((Txt.split z "\n").take i ++ [Txt.join " " ws] ++ (Txt.split z "\n").drop (i + 1))) ≤ mz nlF z + 1 := by
  obtain ⟨c1, c2, c3⟩ := hc
  have rf := free0 (List.mem_of_getElem? hi)
  have rl := split_part (List.mem_of_getElem? hi)
  have h1 := c3 Str.length (row.length + 40) (fun x hx => Nat.le_trans (split_part hx) (by omega)) (fun x hx => (hs x hx).1)
  have h2 := c3 (mz nlF) 0 (fun x hx => by have := wd0 hx; omega) (fun x hx => Nat.le_of_eq (hs x hx).2)
  rw [sum_zero (f := mz nlF) (xs := Txt.split row " ") (fun x hx => by have := wd0 hx; omega)] at h2
  have h3 := len_joinL " " ln_sp ws
  have h4 := mz_joinL nlF " " ws
  rw [nl_sp] at h4
  have h5 := len_wds row
  have h7 := PyProof.Rows.split_pos row " "
  have hR : (Txt.join " " ws).length ≤ 2 * row.length + 41 := by omega
  have hR0 : mz nlF (Txt.join " " ws) = 0 := by omega
  generalize Txt.join " " ws = R at hR hR0
  have il := (List.getElem?_eq_some_iff.mp hi).1
  have k1 := len_joinL "\n" ln_nl ((Txt.split z "\n").take i ++ [R] ++ (Txt.split z "\n").drop (i + 1))
  have k2 := mz_joinL nlF "\n" ((Txt.split z "\n").take i ++ [R] ++ (Txt.split z "\n").drop (i + 1))
  have k3 := len_rows z
  have k4 := nl_rows z
  have k5 := td_sum (f := Str.length) (ws := Txt.split z "\n") i
  have k6 : ((Txt.split z "\n").drop i).map Str.length = row.length :: ((Txt.split z "\n").drop (i + 1)).map Str.length := by
    rw [List.drop_eq_getElem_cons il, (List.getElem?_eq_some_iff.mp hi).2]
    rfl
  rw [k6] at k5
  have k7 : (((Txt.split z "\n").take i).map (mz nlF)).sum = 0 := sum_zero fun x hx => free0 (List.mem_of_mem_take hx)
  have k8 : (((Txt.split z "\n").drop (i + 1)).map (mz nlF)).sum = 0 := sum_zero fun x hx => free0 (List.mem_of_mem_drop hx)
  simp only [List.map_append, List.sum_append, List.map_cons, List.map_nil, List.sum_cons, List.sum_nil, List.length_append, List.length_take, List.length_drop, List.length_singleton, nl_nl, hR0, k7, k8] at k1 k2 k5
  refine ⟨by omega, by omega, by omega⟩
def someS : List Str := ["0", "1", "7", "00", "-", "", "99999999", "1000000000", "end", "abcdefghi", "-1", "-0", "A", "let"]
theorem some_ok : ∀ x ∈ someS, x.length ≤ 10 ∧ mz nlF x = 0 := by decide +kernel
def spSpoilt : Sp := fun vs H Q _ => ∃ (h l b : Addr) (z : Str) (hd : List Str), vs = [.ref h, .str z, .ref b] ∧ Hand H h l ∧ H b = some (.lst (hd.map V.str)) ∧ b ≠ h ∧ b ≠ l ∧ 1 ≤ hd.length ∧ hd.length ≤ 1000 ∧ (∀ x ∈ hd, x.length ≤ 40 ∧ mz nlF x = 0) ∧ z.length ≤ 30000 ∧ mz nlF z ≤ 1000 ∧
  ∀ z' H', Hand H' h l → Kp h l H H' → z'.length ≤ 2 * z.length + 60 → mz nlF z' ≤ mz nlF z + 1 → Q (.str z') H'
section
variable {P : Program} {w : World} {K : PySem.W.Frag} {mg : Str → Option Value} {base : Heap}
theorem ok__law_spoilt (T : Tp w K mg) : FnOk P w K mg base CX0 4 T.f__law_spoilt T.d__law_spoilt ["_law_hand_here", "_law_text", "_law_heads"] spSpoilt := by
  refine T.F__law_spoilt.ok sc__law_spoilt (fun vs H Q E h => ?_) (fun cdv A outer s H vs Q E hr h => ?_)
  · obtain ⟨h, l, b, z, hd, rfl, _⟩ := h
    rfl
  obtain ⟨h, l, b, z, hd, rfl, A0, hb, bh, bl, d1, d2, hds, zl, zn, q⟩ := h
  refine ⟨_, (pss_cons (ps_par rfl sc__law_spoilt.nd (i := 3) (j := 4) rfl rfl (by decide) rfl rfl (pa_cons (pe_split (pv 1) pe_str) (pa_cons (pe_call (ok__law_pick T) (hr.mono (by decide)) rfl T.m__law_pick T.F__law_pick.kp (b__law_pick T) .nil pass0 (pa_cons (pv 0) (pa_cons pe_int pa_nil (star1 rfl)) (star1 rfl)) (by decide) (star1 rfl) (starAll rfl)) pa_nil (star1 rfl)) (star1 rfl)) (by rfl))
  (pss_cons (ps_if (pt_cmpR op_eq (pv 4) pe_int (nomark _)) (pss_one (ps_ret (pe_join pe_str (pe_call (ok__law_words_changed T) (hr.mono (by decide)) rfl T.m__law_words_changed T.F__law_words_changed.kp (b__law_words_changed T) .nil pass0 (pa_cons (pv 0) (pa_cons (pv 3) (pa_cons (pe_lst (pa_cons (pe_call (ok__law_of T) (hr.mono (by decide)) rfl T.m__law_of T.F__law_of.kp (b__law_of T) .nil pass0 (pa_cons (pv 0) (pa_cons (pv 3) pa_nil (star1 rfl)) (star1 rfl)) (by decide) (star1 rfl) (starAll rfl)) (pa_cons (pe_call (ok__law_of T) (hr.mono (by decide)) rfl T.m__law_of T.F__law_of.kp (b__law_of T) .nil pass0 (pa_cons (pv 0) (pa_cons (pv 2) pa_nil (star1 rfl)) (star1 rfl)) (by decide) (star1 rfl) (starAll rfl)) (pa_cons pe_str pa_nil (star1 rfl)) (star1 rfl)) (star1 rfl))) pa_nil (star1 rfl)) (star1 rfl)) (star1 rfl)) (by decide) (star1 rfl) (starAll rfl))))) pss_nil)
  (pss_cons (ps_if (pt_cmpR op_eq (pv 4) pe_int (nomark _)) (pss_cons (ps_set (i := 5) sc__law_spoilt.nd rfl (Or.inl rfl) (pe_call (ok__law_pick T) (hr.mono (by decide)) rfl T.m__law_pick T.F__law_pick.kp (b__law_pick T) .nil pass0 (pa_cons (pv 0) (pa_cons (pe_callB call_len rfl T.z_len PySem.boot_len (pa_cons (pv 3) pa_nil (star1 rfl)) (by decide) (by decide) (star1 rfl) (starAll rfl)) pa_nil (star1 rfl)) (star1 rfl)) (by decide) (star1 rfl) (starAll rfl)))
  (pss_cons (ps_set (i := 6) sc__law_spoilt.nd rfl (Or.inl rfl) (pe_split (pe_ix (ixLK (K := K) rfl) (pv 3) (pv 5) (fun _ _ => rfl)) pe_str))
  (pss_cons (ps_set (i := 7) sc__law_spoilt.nd rfl (Or.inl rfl) (pe_lst (pa_cons pe_str (pa_cons pe_str (pa_cons pe_str (pa_cons pe_str (pa_cons pe_str (pa_cons pe_str (pa_cons pe_str (pa_cons pe_str (pa_cons pe_str (pa_cons pe_str (pa_cons pe_str (pa_cons pe_str (pa_cons pe_str (pa_cons pe_str pa_nil (star1 rfl)) (star1 rfl)) (star1 rfl)) (star1 rfl)) (star1 rfl)) (star1 rfl)) (star1 rfl)) (star1 rfl)) (star1 rfl)) (star1 rfl)) (star1 rfl)) (star1 rfl)) (star1 rfl)) (star1 rfl))))
  (pss_cons (ps_set (i := 6) sc__law_spoilt.nd rfl (Or.inl rfl) (pe_call (ok__law_words_changed T) (hr.mono (by decide)) rfl T.m__law_words_changed T.F__law_words_changed.kp (b__law_words_changed T) .nil pass0 (pa_cons (pv 0) (pa_cons (pv 6) (pa_cons (pe_op op_cat (pv 7) (pe_lst (pa_cons (pe_call (ok__law_of T) (hr.mono (by decide)) rfl T.m__law_of T.F__law_of.kp (b__law_of T) .nil pass0 (pa_cons (pv 0) (pa_cons (pv 6) pa_nil (star1 rfl)) (star1 rfl)) (by decide) (star1 rfl) (starAll rfl)) (pa_cons (pe_ix (ixLK (K := K) rfl) (pe_split (pe_call (ok__law_of T) (hr.mono (by decide)) rfl T.m__law_of T.F__law_of.kp (b__law_of T) .nil pass0 (pa_cons (pv 0) (pa_cons (pv 2) pa_nil (star1 rfl)) (star1 rfl)) (by decide) (star1 rfl) (starAll rfl)) pe_str) pe_int (fun _ _ => rfl)) pa_nil (star1 rfl)) (star1 rfl)))) pa_nil (star1 rfl)) (star1 rfl)) (star1 rfl)) (by decide) (star1 rfl) (starAll rfl)))
  (pss_one (ps_ret (pe_join pe_str (pe_op op_cat (pe_op op_cat (pe_slice sl_list (pv 3) po_none (po_some (pv 5))) (pe_lst (pa_cons (pe_join pe_str (pv 6)) pa_nil (star1 rfl)))) (pe_slice sl_list (pv 3) (po_some (pe_op op_add (pv 5) pe_int)) po_none))))))))) pss_nil)
  (pss_one (ps_ret (pe_call (ok__law_sign_changed T) (hr.mono (by decide)) rfl T.m__law_sign_changed T.F__law_sign_changed.kp (b__law_sign_changed T) .nil pass0 (pa_cons (pv 0) (pa_cons (pv 1) pa_nil (star1 rfl)) (star1 rfl)) (by decide) (star1 rfl) (starAll rfl))))))), ?_⟩
  have zs : z.length + 2 ≤ sizeLine := Nat.le_trans (show z.length + 2 ≤ 30002 by omega) (by decide)
  have rp := PyProof.Rows.split_pos z "\n"
  have rn := nl_rows z
  have rowL : ∀ x ∈ Txt.split z "\n", x.length ≤ z.length := fun x hx => split_part hx
  refine q_parP ?_
  refine ⟨_, rfl, ⟨z, rfl⟩, z, "\n", rfl, rfl, by decide, zs, fun r hr0 => ?_⟩
  have e1 := Ex.new (o := .lst ((Txt.split z "\n").map V.str)) hr0
  have hr1 : upd H r (.lst ((Txt.split z "\n").map V.str)) r = some (.lst ((Txt.split z "\n").map V.str)) := upd_same
  obtain ⟨rh, rl⟩ := A0.fresh hr0
  have A1 := A0.ex e1
  generalize upd H r (.lst ((Txt.split z "\n").map V.str)) = H1 at e1 hr1 A1 ⊢
  refine ⟨_, rfl, h, l, 3, rfl, A1, by decide, by decide, fun w0 H2 w00 w01 A2 k2 => ?_⟩
  have k02 := (Kp.ex (h := h) (l := l) e1).trans k2
  have hr2 := k2 r _ rh rl hr1
  have hb2 := k02 b _ bh bl hb
  refine ⟨_, _, rfl, ?_⟩
  refine q_ifQ (tst_raw ⟨_, rfl, rfl, _, rfl, ?_⟩)
  by_cases c0 : w0 = 0
  · refine iteT' (by rw [c0]; rfl) (s_retP ?_)
    refine ⟨⟨_, rfl⟩, _, rfl, _, rfl, _, rfl, _, rfl, of_list (E := E0) A2 hr2 rh rl (by rw [List.length_map]; omega) (by rw [List.length_map]; omega) fun v1 H3 hv1 A3 k3 => ?_⟩
    obtain ⟨x1, hx1, rfl⟩ := List.mem_map.mp hv1
    refine ⟨_, rfl, _, rfl, of_list (E := E0) A3 (k3 b _ bh bl hb2) bh bl (by rw [List.length_map]; omega) (by rw [List.length_map]; omega) fun v2 H4 hv2 A4 k4 => ?_⟩
    obtain ⟨x2, hx2, rfl⟩ := List.mem_map.mp hv2
    refine ⟨(by show 3 ≤ sizeLine; decide), fun p hp => ?_⟩
    obtain ⟨ph, pl⟩ := A4.fresh hp
    have k24 := k3.trans k4
    have hr4 := k24 r _ rh rl hr2
    refine ⟨h, l, r, p, Txt.split z "\n", [x1, x2, ""], rfl, A4.new hp, Ex.new hp _ _ hr4, upd_same, rh, rl, ph, pl, by omega, by simp, by simp, fun rr zs' H6 A6 k6 hrr _ _ hc => ?_⟩
    have hs : ∀ x ∈ [x1, x2, ""], x.length ≤ z.length + 40 ∧ mz nlF x = 0 := fun x hx => by
      simp only [List.mem_cons, List.not_mem_nil, or_false] at hx
      rcases hx with rfl | rfl | rfl
      · exact ⟨Nat.le_trans (rowL _ hx1) (by omega), free0 hx1⟩
      · have := hds _ hx2
        exact ⟨by omega, this.2⟩
      · exact ⟨Nat.zero_le _, rfl⟩
    obtain ⟨g1, g2⟩ := way0 hc hs
    have c3 := hc.2.2 Str.length 60000 (fun x hx => Nat.le_trans (rowL _ hx) (by omega)) (fun x hx => Nat.le_trans (hs x hx).1 (by omega))
    have c4 := len_rows z
    refine ⟨"\n", rr, zs', rfl, rfl, Or.inl (sq_of hrr), ?_, ?_⟩
    · rw [ln_nl, show (List.map (fun x => x.length) zs') = zs'.map Str.length from rfl]
      have := hc.1
      omega
    · exact q _ H6 A6 ((k02.trans k24).trans ((Kp.ex (Ex.new hp)).trans k6)) g1 g2
  refine iteF' (decide_eq_false fun z => c0 (by injection z)) (q_ifQ (tst_raw ⟨_, rfl, rfl, _, rfl, ?_⟩))
  by_cases c1 : w0 = 1
  · refine iteT' (by rw [c1]; rfl) ?_
    refine q_asgP ?_
    refine ⟨_, rfl, _, rfl, .ref r, (Txt.split z "\n").length, rfl, Or.inl ⟨_, sq_of hr2, by rw [List.length_map]⟩, h, l, ((Txt.split z "\n").length : Nat), rfl, A2, by omega, by omega, fun i' H3 i0 i1 A3 k3 => ?_⟩
    obtain ⟨i, rfl⟩ : ∃ i : Nat, i' = i := ⟨i'.toNat, by omega⟩
    have il : i < (Txt.split z "\n").length := by omega
    obtain ⟨row, hi⟩ : ∃ row, (Txt.split z "\n")[i]? = some row := ⟨_, List.getElem?_eq_getElem il⟩
    have rm := List.mem_of_getElem? hi
    have rwl := rowL _ rm
    have hr3 := k3 r _ rh rl hr2
    have hb3 := k3 b _ bh bl hb2
    refine q_asgP ?_
    refine ⟨_, rfl, _, rfl, r, _, (i : Int), .str row, rfl, rfl, sq_of hr3, atI_nat (by rw [List.getElem?_map, hi]; rfl), ⟨row, rfl⟩, row, " ", rfl, rfl, by decide, Nat.le_trans (show row.length + 2 ≤ 30002 by omega) (by decide), fun wp hwp => ?_⟩
    obtain ⟨wh, wl⟩ := A3.fresh hwp
    have e4 := Ex.new (o := .lst ((Txt.split row " ").map V.str)) hwp
    have hw4 : upd H3 wp (.lst ((Txt.split row " ").map V.str)) wp = some (.lst ((Txt.split row " ").map V.str)) := upd_same
    have A4 := A3.ex e4
    have k24 := k3.trans (Kp.ex (h := h) (l := l) e4)
    have hr4 := e4 _ _ hr3
    have hb4 := e4 _ _ hb3
    generalize upd H3 wp (.lst ((Txt.split row " ").map V.str)) = H4 at e4 hw4 A4 k24 hr4 hb4 ⊢
    refine q_asgP ?_
    refine ⟨(by show 14 ≤ sizeLine; decide), fun sp hsp => ?_⟩
    obtain ⟨sh, sl⟩ := A4.fresh hsp
    have e5 := Ex.new (o := .lst (someS.map V.str)) hsp
    have hs5 : upd H4 sp (.lst (someS.map V.str)) sp = some (.lst (someS.map V.str)) := upd_same
    show tSeq _ _ _ _ (upd H4 sp (.lst (someS.map V.str)))
    have A5 := A4.ex e5
    have k25 := k24.trans (Kp.ex (h := h) (l := l) e5)
    have hr5 := e5 _ _ hr4
    have hb5 := e5 _ _ hb4
    have hw5 := e5 _ _ hw4
    generalize upd H4 sp (.lst (someS.map V.str)) = H5 at e5 hs5 A5 k25 hr5 hb5 hw5 ⊢
    have wp1 := PyProof.Rows.split_pos row " "
    have wp2 := split_many row (y := " ") rfl
    refine q_asgP ?_
    refine ⟨_, rfl, _, rfl, _, rfl, _, rfl, _, rfl, of_list (E := E0) A5 hw5 wh wl (by rw [List.length_map]; omega) (by rw [List.length_map]; omega) fun v1 H6 hv1 A6 k6 => ?_⟩
    obtain ⟨x1, hx1, rfl⟩ := List.mem_map.mp hv1
    refine ⟨_, rfl, _, rfl, of_list (E := E0) A6 (k6 b _ bh bl hb5) bh bl (by rw [List.length_map]; omega) (by rw [List.length_map]; omega) fun v2 H7 hv2 A7 k7 => ?_⟩
    obtain ⟨x2, hx2, rfl⟩ := List.mem_map.mp hv2
    have x2h := hds _ hx2
    obtain ⟨y, yr, hy⟩ := rows_pos x2
    refine ⟨⟨x2, rfl⟩, x2, " ", rfl, rfl, by decide, Nat.le_trans (show x2.length + 2 ≤ 42 by omega) (by decide), fun p2 hp2 => ?_⟩
    have e8 := Ex.new (o := .lst ((Txt.split x2 " ").map V.str)) hp2
    have hp8 : upd H7 p2 (.lst ((Txt.split x2 " ").map V.str)) p2 = some (.lst ((y :: yr).map V.str)) := by rw [upd_same, hy]
    have A8 := A7.ex e8
    have k28 := (k25.trans (k6.trans k7)).trans (Kp.ex (h := h) (l := l) e8)
    have k58 := (k6.trans k7).trans (Kp.ex (h := h) (l := l) e8)
    generalize upd H7 p2 (.lst ((Txt.split x2 " ").map V.str)) = H8 at e8 hp8 A8 k28 k58 ⊢
    refine ⟨p2, _, 0, .str y, rfl, rfl, sq_of hp8, atI_nat (j := 0) rfl, (by show 2 ≤ sizeLine; decide), fun q2 hq2 => ?_⟩
    have e9 := Ex.new (o := .lst [.str x1, .str y]) hq2
    have hs9 := e9 _ _ (k58 sp _ sh sl hs5)
    refine ⟨sp, q2, _, _, rfl, rfl, hs9, upd_same, (by show 16 ≤ sizeLine; decide), fun c hc0 => ?_⟩
    have e10 := e9.trans (Ex.new (o := .lst (someS.map V.str ++ [.str x1, .str y])) hc0)
    have hc10 : upd (upd H8 q2 (.lst [.str x1, .str y])) c (.lst (someS.map V.str ++ [.str x1, .str y])) c = some (.lst ((someS ++ [x1, y]).map V.str)) := by rw [upd_same, List.map_append]; rfl
    obtain ⟨ch, cl⟩ := (A8.ex e9).fresh hc0
    have A10 := A8.ex e10
    have k210 := k28.trans (Kp.ex (h := h) (l := l) e10)
    have hw10 := e10 _ _ (k58 wp _ wh wl hw5)
    have hr10 := e10 _ _ (k58 r _ rh rl hr5)
    generalize upd (upd H8 q2 (.lst [.str x1, .str y])) c (.lst (someS.map V.str ++ [.str x1, .str y])) = H10 at e10 hc10 A10 k210 hw10 hr10 ⊢
    refine ⟨h, l, wp, c, Txt.split row " ", someS ++ [x1, y], rfl, A10, hw10, hc10, wh, wl, ch, cl, by omega, by simp [someS], by simp [someS], fun rr ws' H11 A11 k11 hrr rrh rrl hc => ?_⟩
    have rf := free0 rm
    have hs : ∀ x ∈ someS ++ [x1, y], x.length ≤ row.length + 40 ∧ mz nlF x = 0 := fun x hx => by
      rcases List.mem_append.mp hx with hx | hx
      · have := some_ok x hx
        exact ⟨by omega, this.2⟩
      · simp only [List.mem_cons, List.not_mem_nil, or_false] at hx
        rcases hx with rfl | rfl
        · have := split_part hx1
          have := wd0 hx1
          exact ⟨by omega, by omega⟩
        · have ym : x ∈ Txt.split x2 " " := by rw [hy]; simp
          have := split_part ym
          have := wd0 ym
          exact ⟨by omega, by omega⟩
    obtain ⟨g0, g1, g2⟩ := way1 hi hc hs
    have c3 := hc.2.2 Str.length 60000 (fun x hx => Nat.le_trans (split_part hx) (by omega)) (fun x hx => Nat.le_trans (hs x hx).1 (by omega))
    have c4 := len_wds row
    have c5 := hc.1
    have hr11 := k11 r _ rh rl hr10
    refine s_retP ?_
    have sm : ∀ ws : List Str, (List.map (fun x => x.length) ws) = ws.map Str.length := fun _ => rfl
    have mid : SLs K [some (.ref h), some (.str z), some (.ref b), some (.ref r), some (.int w0), some (.int (i : Int)), some (.ref rr), some (.ref sp)] H11 true (tLst (tCons (tM1 (fun x xs H Q => ∃ a p, ∃ ys : List Str, x = .str a ∧ xs = [.ref p] ∧ (SqL K H p (ys.map V.str) ∨ SqT K H p (ys.map V.str)) ∧ (ys.map (·.length)).sum + ys.length * a.length ≤ 16777216 ∧ Q (.str (Txt.join a ys)) H) (tC (.str " ")) (tVar 6)) tNil)) [Txt.join " " ws'] := fun H Q e q =>
      ⟨⟨_, rfl⟩, _, rfl, " ", rr, ws', rfl, rfl, Or.inl (sq_of (e _ _ hrr)), by rw [ln_sp, sm]; omega, (by show 1 ≤ sizeLine; decide), fun p hp => q p _ (Ex.new hp) upd_same fun _ => hp⟩
    have wr : SLs K [some (.ref h), some (.str z), some (.ref b), some (.ref r), some (.int w0), some (.int (i : Int)), some (.ref rr), some (.ref sp)] H11 false (tVar 3) (Txt.split z "\n") := sl_var rfl hr11
    have all := sl_cat (sl_cat (sl_cut wr (lo := tNoPart) (hi := tPart (tVar 5)) (fun H R q => q) (fun H R q => ⟨_, rfl, _, rfl, q⟩) (cut_toA (i := i))) mid (by rw [List.length_take, List.length_singleton]; omega)) (sl_cut wr (lo := tPart (tOp (rI0 fun i j => V.int (i + j)) (tVar 5) (tC (.int 1)))) (hi := tNoPart) (fun H R q => ⟨_, rfl, _, _, rfl, rfl, _, rfl, q⟩) (fun H R q => q) (cut_fromA (i := i + 1))) (by rw [List.length_append, List.length_take, List.length_singleton, List.length_drop]; omega)
    refine ⟨⟨_, rfl⟩, all H11 _ (Ex.refl H11) fun p H12 e12 hp _ => ⟨"\n", p, _, rfl, rfl, Or.inl (sq_of hp), ?_, ?_⟩⟩
    · have k5 := td_sum (f := Str.length) (ws := Txt.split z "\n") i
      have k6 := dd_sum (f := Str.length) (ws := Txt.split z "\n") (show i ≤ i + 1 by omega)
      have k7 := len_rows z
      rw [ln_nl, sm]
      simp only [List.map_append, List.sum_append, List.map_cons, List.map_nil, List.sum_cons, List.sum_nil, List.length_append, List.length_take, List.length_drop, List.length_singleton]
      omega
    · exact q _ H12 (A11.ex e12) (((k02.trans k210).trans k11).trans (Kp.ex e12)) g1 g2
  refine iteF' (decide_eq_false fun z => c1 (by injection z)) ?_
  refine s_retP ?_
  refine ⟨_, rfl, _, rfl, h, l, z, rfl, A2, by omega, fun z' H3 A3 k3 hf => ?_⟩
  have f1 := hf (fun _ => 1) fun c => Nat.le_refl _
  have f2 := hf nlF fun c => by unfold nlF; split <;> omega
  rw [mz_one, mz_one] at f1
  exact q z' H3 A3 (k02.trans k3) (by omega) f2
end
/-! ### books read out of any rows -/
def parseB (ws : List Str) : Option BT := match ws with
  | [a] => if a = "take" then some (.r [.str "take", .none]) else if a = "try" then some (.r [.str "try"]) else if a = "let" then some (.r [.str "let"]) else none
  | [a, x] => if a = "program" ∧ lettS x = true then some (.p x) else if a = "take" ∧ numB x = true then some (.r [.str "take", .int (numV x)]) else if a = "say" ∧ numB x = true then some (.r [.str "say", .int (numV x)]) else if a = "goto" ∧ numB x = true then some (.r [.str "goto", .int (numV x)]) else none
  | [a, x, y] => if a = "if" ∧ signB x = true ∧ numB y = true then some (.r [.str "if", .int (numV x), .int (numV y)]) else none
  | _ => none
def rowBD : Option BT → PyData
  | none => .none
  | some w => w.dat
theorem kb_sgn (z : Str) : kindB "M" z = signB z := by
  unfold kindB
  rw [if_neg (by decide), if_neg (by decide), if_pos rfl]
theorem kbl (k : Str) (h1 : k ≠ "NAME") (h2 : k ≠ "N") (h3 : k ≠ "M") (z : Str) : kindB k z = decide (z = k) := kb_lit h1 h2 h3
theorem rdl {k z : Str} (h2 : k ≠ "N") (h3 : k ≠ "M") : readD k z = .str z := lit_read h2 h3
theorem rdn (z : Str) : readD "N" z = .int (numV z) := by
  unfold readD
  rw [if_pos (Or.inl rfl)]
  rfl
theorem rdm (z : Str) : readD "M" z = .int (numV z) := by
  unfold readD
  rw [if_pos (Or.inr rfl)]
  rfl
theorem readB_parse (row : Str) : readW row bookFs = rowBD (parseB (Txt.split row " ")) := by
  unfold readW
  generalize Txt.split row " " = ws
  have g1 : ∀ k : Str, k ≠ "NAME" → k ≠ "N" → k ≠ "M" → formB ws [k] = (match ws with | [a] => decide (a = k) | _ => false) := fun k h1 h2 h3 => by
    unfold formB
    rcases ws with _ | ⟨a, _ | ⟨n, r⟩⟩ <;> simp [kbl k h1 h2 h3]
  have g2 : ∀ k : Str, k ≠ "NAME" → k ≠ "N" → k ≠ "M" → formB ws [k, "N"] = (match ws with | [a, x] => decide (a = k) && numB x | _ => false) := fun k h1 h2 h3 => by
    unfold formB
    rcases ws with _ | ⟨a, _ | ⟨n, _ | ⟨b, r⟩⟩⟩ <;> simp [kbl k h1 h2 h3, kb_num]
  have g3 : formB ws ["program", "NAME"] = (match ws with | [a, x] => decide (a = "program") && lettS x | _ => false) := by
    unfold formB
    rcases ws with _ | ⟨a, _ | ⟨n, _ | ⟨b, r⟩⟩⟩ <;> simp [kbl "program" (by decide) (by decide) (by decide), kb_name]
  have g4 : formB ws ["if", "M", "N"] = (match ws with | [a, x, y] => decide (a = "if") && (signB x && numB y) | _ => false) := by
    unfold formB
    rcases ws with _ | ⟨a, _ | ⟨n, _ | ⟨b, _ | ⟨c, r⟩⟩⟩⟩ <;> simp [kbl "if" (by decide) (by decide) (by decide), kb_num, kb_sgn]
  unfold bookFs
  rw [List.find?_cons, g3, List.find?_cons, g1 "take" (by decide) (by decide) (by decide), List.find?_cons, g2 "take" (by decide) (by decide) (by decide), List.find?_cons, g1 "try" (by decide) (by decide) (by decide), List.find?_cons, g1 "let" (by decide) (by decide) (by decide), List.find?_cons, g2 "say" (by decide) (by decide) (by decide), List.find?_cons, g2 "goto" (by decide) (by decide) (by decide), List.find?_cons, g4, List.find?_nil]
  rcases ws with _ | ⟨a, _ | ⟨x, _ | ⟨y, _ | ⟨c, r⟩⟩⟩⟩
  · rfl
  · simp only [parseB]
    by_cases h1 : a = "take"
    · subst h1; rfl
    by_cases h2 : a = "try"
    · subst h2; rfl
    by_cases h3 : a = "let"
    · subst h3; rfl
    simp only [decide_eq_false h1, decide_eq_false h2, decide_eq_false h3, if_neg h1, if_neg h2, if_neg h3]
    rfl
  · simp only [parseB]
    by_cases h1 : a = "program"
    · subst h1
      have p1 : ¬ ("program" : Str) = "take" := by decide
      have p2 : ¬ ("program" : Str) = "say" := by decide
      have p3 : ¬ ("program" : Str) = "goto" := by decide
      have r1 : readD "program" "program" = .str "program" := rdl (by decide) (by decide)
      have r2 : readD "NAME" x = .str x := rdl (by decide) (by decide)
      cases hx : lettS x with
      | true => simp [rowBD, BT.dat, r1, r2]
      | false => simp [rowBD, p1, p2, p3]
    cases hn : numB x with
    | false => simp [h1, rowBD]
    | true =>
      by_cases h2 : a = "take"
      · subst h2
        simp [show readD "take" "take" = .str "take" from rdl (by decide) (by decide), rowBD, BT.dat, rdl, rdn, rowW, h1]
      by_cases h3 : a = "say"
      · subst h3
        simp [show readD "say" "say" = .str "say" from rdl (by decide) (by decide), rowBD, BT.dat, rdl, rdn, rowW, h1, h2]
      by_cases h4 : a = "goto"
      · subst h4
        simp [show readD "goto" "goto" = .str "goto" from rdl (by decide) (by decide), rowBD, BT.dat, rdl, rdn, rowW, h1, h2, h3]
      simp [h1, h2, h3, h4, rowBD]
  · simp only [parseB]
    by_cases h1 : a = "if" ∧ signB x = true ∧ numB y = true
    · obtain ⟨rfl, h2, h3⟩ := h1
      simp [show readD "if" "if" = .str "if" from rdl (by decide) (by decide), h2, h3, rowBD, BT.dat, rdl, rdn, rdm, rowW]
    · rw [if_neg h1]
      have : (decide (a = "if") && (signB x && numB y)) = false := by
        rw [Bool.eq_false_iff]
        intro k
        rw [Bool.and_eq_true, Bool.and_eq_true] at k
        exact h1 ⟨of_decide_eq_true k.1, k.2⟩
      simp only [this]
      rfl
  · rfl
/-! ### the machine of books -/
def isR : BT → Bool
  | .p _ => false
  | .r _ => true
def outB : List Str → Nat → List Pg → Nat ⊕ List Pg
  | [], _, s => .inr s.reverse
  | r :: rs, i, s => match parseB (Txt.split r " ") with
    | none => .inl i
    | some w => if (s.isEmpty && isR w) = true then .inl i else outB rs (i + 1) (stepB s w)
def RR (ds : List PyData) : Prop := ds = [.str "take", .none] ∨ ds = [.str "try"] ∨ ds = [.str "let"] ∨ (∃ i : Int, 0 ≤ i ∧ i ≤ 999999999 ∧ (ds = [.str "take", .int i] ∨ ds = [.str "say", .int i] ∨ ds = [.str "goto", .int i])) ∨ ∃ m i : Int, -999999999 ≤ m ∧ m ≤ 999999999 ∧ 0 ≤ i ∧ i ≤ 999999999 ∧ ds = [.str "if", .int m, .int i]
theorem sgn_rng {z : Str} (h : signB z = true) : -999999999 ≤ numV z ∧ numV z ≤ 999999999 := by
  unfold signB at h
  by_cases c : Txt.startswith z "-" = true
  · rw [if_pos c, Bool.and_eq_true] at h
    obtain ⟨h1, h2, h3⟩ := num_len h.2
    have hd : z.cps.toList[0]? = some 45 := sw_one.mp c
    cases hz : z.cps.toList with
    | nil => rw [hz] at hd; cases hd
    | cons a cs =>
      rw [hz] at hd
      cases hd
      have ht := tail_tl hz
      have tl1 : (tailS z).length = cs.length := by
        have : (tailS z).cps.toList.length = (tailS z).length := by simp [Str.length]
        rw [ht] at this
        omega
      have zl : z.length = cs.length + 1 := by
        have : z.cps.toList.length = z.length := by simp [Str.length]
        rw [hz] at this
        simpa using this.symm
      have hcs : NumText.AllDigits cs := by rw [← ht]; exact fig_all.mp h3
      have e := PySem.intText_neg hz hcs (fun e => by rw [e] at tl1; simp at tl1; omega) (by omega)
      have := dig_lt cs 0 hcs
      have h9 : 10 ^ cs.length ≤ 10 ^ 9 := Nat.pow_le_pow_right (by decide) (by omega)
      have e9 : (10 : Nat) ^ 9 = 1000000000 := by decide
      unfold numV
      rw [e]
      unfold PySem.NumText.digitsVal
      show -999999999 ≤ -(((cs.foldl (fun acc c => acc * 10 + (c - 48)) 0 : Nat)) : Int) ∧ -(((cs.foldl (fun acc c => acc * 10 + (c - 48)) 0 : Nat)) : Int) ≤ 999999999
      omega
  · rw [if_neg c] at h
    have := num_rng h
    omega
theorem parseB_rd {ws : List Str} {w : BT} (h : parseB ws = some w) : match w with | .p n => lettS n = true ∧ n ∈ ws | .r ds => RR ds := by
  rcases ws with _ | ⟨a, _ | ⟨x, _ | ⟨y, _ | ⟨c, r⟩⟩⟩⟩
  · cases h
  · simp only [parseB] at h
    split at h
    · cases h; exact Or.inl rfl
    · split at h
      · cases h; exact Or.inr (Or.inl rfl)
      · split at h
        · cases h; exact Or.inr (Or.inr (Or.inl rfl))
        · cases h
  · simp only [parseB] at h
    by_cases c1 : a = "program" ∧ lettS x = true
    · rw [if_pos c1] at h
      cases h
      exact ⟨c1.2, by simp⟩
    rw [if_neg c1] at h
    by_cases c2 : a = "take" ∧ numB x = true
    · rw [if_pos c2] at h
      cases h
      obtain ⟨h1, h2⟩ := num_rng c2.2
      exact Or.inr (Or.inr (Or.inr (Or.inl ⟨_, h1, h2, Or.inl rfl⟩)))
    rw [if_neg c2] at h
    by_cases c3 : a = "say" ∧ numB x = true
    · rw [if_pos c3] at h
      cases h
      obtain ⟨h1, h2⟩ := num_rng c3.2
      exact Or.inr (Or.inr (Or.inr (Or.inl ⟨_, h1, h2, Or.inr (Or.inl rfl)⟩)))
    rw [if_neg c3] at h
    by_cases c4 : a = "goto" ∧ numB x = true
    · rw [if_pos c4] at h
      cases h
      obtain ⟨h1, h2⟩ := num_rng c4.2
      exact Or.inr (Or.inr (Or.inr (Or.inl ⟨_, h1, h2, Or.inr (Or.inr rfl)⟩)))
    rw [if_neg c4] at h
    cases h
  · simp only [parseB] at h
    by_cases c1 : a = "if" ∧ signB x = true ∧ numB y = true
    · rw [if_pos c1] at h
      cases h
      obtain ⟨h1, h2⟩ := sgn_rng c1.2.1
      obtain ⟨h3, h4⟩ := num_rng c1.2.2
      exact Or.inr (Or.inr (Or.inr (Or.inr ⟨_, _, h1, h2, h3, h4, rfl⟩)))
    rw [if_neg c1] at h
    cases h
  · cases h
def rdPs (s : List Pg) : Prop := ∀ p ∈ s, lettS p.1 = true ∧ ∀ ds ∈ p.2, RR ds
theorem rdP_step {s : List Pg} {w : BT} {ws : List Str} (hp : parseB ws = some w) (hs : rdPs s) : rdPs (stepB s w) := by
  have pr := parseB_rd hp
  cases w with
  | p n =>
    intro q hq
    rcases List.mem_cons.mp hq with rfl | hq
    · exact ⟨pr.1, fun ds h => by simp at h⟩
    · exact hs q hq
  | r ds =>
    cases s with
    | nil => intro q hq; simp [stepB] at hq
    | cons x s =>
      obtain ⟨n, dss⟩ := x
      intro q hq
      rcases List.mem_cons.mp hq with rfl | hq
      · obtain ⟨h1, h2⟩ := hs (n, dss) (by simp)
        refine ⟨h1, fun d hd => ?_⟩
        rcases List.mem_append.mp hd with hd | hd
        · exact h2 d hd
        · rw [List.mem_singleton.mp hd]
          exact pr
      · exact hs q (by simp [hq])
theorem outB_rd : ∀ (rs : List Str) (i : Nat) (s : List Pg) (t : List Pg), rdPs s → outB rs i s = .inr t → rdPs t
  | [], i, s, t, hs, e => by
    simp only [outB, Sum.inr.injEq] at e
    subst e
    exact fun p hp => hs p (List.mem_reverse.mp hp)
  | r :: rs, i, s, t, hs, e => by
    unfold outB at e
    cases hp : parseB (Txt.split r " ") with
    | none => rw [hp] at e; cases e
    | some w =>
      rw [hp] at e
      simp only at e
      split at e
      · cases e
      · exact outB_rd rs (i + 1) _ t (rdP_step hp hs) e
theorem outB_lt : ∀ (rs : List Str) (i : Nat) (s : List Pg) (j : Nat), outB rs i s = .inl j → j ≤ i + rs.length
  | [], i, s, j, e => by simp [outB] at e
  | r :: rs, i, s, j, e => by
    unfold outB at e
    simp only [List.length_cons]
    cases hp : parseB (Txt.split r " ") with
    | none => rw [hp] at e; simp only [Sum.inl.injEq] at e; omega
    | some w =>
      rw [hp] at e
      simp only at e
      split at e
      · simp only [Sum.inl.injEq] at e
        omega
      · have := outB_lt rs (i + 1) _ j e
        omega
/-! ### a row of a program -/
theorem rr_shaped {ds : List PyData} (h : RR ds) : SeqAt.shaped (rowW ds) = true := by
  rcases h with rfl | rfl | rfl | ⟨i, h1, h2, rfl | rfl | rfl⟩ | ⟨m, i, h1, h2, h3, h4, rfl⟩
  · decide +kernel
  · decide +kernel
  · decide +kernel
  · exact shaped_of88 (B := 2 ^ 40) ⟨asc_lit (by decide), by show i.natAbs ≤ 2 ^ 40; omega, trivial⟩ rfl (by simp [rowW, PyData.depth, PyData.depthAll])
  · exact shaped_of88 (B := 2 ^ 40) ⟨asc_lit (by decide), by show i.natAbs ≤ 2 ^ 40; omega, trivial⟩ rfl (by simp [rowW, PyData.depth, PyData.depthAll])
  · exact shaped_of88 (B := 2 ^ 40) ⟨asc_lit (by decide), by show i.natAbs ≤ 2 ^ 40; omega, trivial⟩ rfl (by simp [rowW, PyData.depth, PyData.depthAll])
  · exact shaped_of88 (B := 2 ^ 40) ⟨asc_lit (by decide), by show m.natAbs ≤ 2 ^ 40; omega, by show i.natAbs ≤ 2 ^ 40; omega, trivial⟩ rfl (by simp [rowW, PyData.depth, PyData.depthAll])
theorem rr_to {ds : List PyData} (h : RR ds) : tupOnly (.tuple ds) = true := by
  rcases h with rfl | rfl | rfl | ⟨i, h1, h2, rfl | rfl | rfl⟩ | ⟨m, i, h1, h2, h3, h4, rfl⟩ <;> rfl
theorem rr_okD {ds : List PyData} (h : RR ds) : okD (2 ^ 40) (.tuple ds) ∧ wt (.tuple ds) ≤ 300 ∧ nodes (.tuple ds) ≤ 4 := by
  rcases h with rfl | rfl | rfl | ⟨i, h1, h2, rfl | rfl | rfl⟩ | ⟨m, i, h1, h2, h3, h4, rfl⟩
  · exact ⟨⟨asc_lit (by decide), trivial, trivial⟩, by decide +kernel, by decide +kernel⟩
  · exact ⟨⟨asc_lit (by decide), trivial⟩, by decide +kernel, by decide +kernel⟩
  · exact ⟨⟨asc_lit (by decide), trivial⟩, by decide +kernel, by decide +kernel⟩
  · exact ⟨⟨asc_lit (by decide), by show i.natAbs ≤ 2 ^ 40; omega, trivial⟩, by show wt (.tuple [.str "take", .int 0]) ≤ 300; decide +kernel, by show nodes (.tuple [.str "take", .int 0]) ≤ 4; decide +kernel⟩
  · exact ⟨⟨asc_lit (by decide), by show i.natAbs ≤ 2 ^ 40; omega, trivial⟩, by show wt (.tuple [.str "say", .int 0]) ≤ 300; decide +kernel, by show nodes (.tuple [.str "say", .int 0]) ≤ 4; decide +kernel⟩
  · exact ⟨⟨asc_lit (by decide), by show i.natAbs ≤ 2 ^ 40; omega, trivial⟩, by show wt (.tuple [.str "goto", .int 0]) ≤ 300; decide +kernel, by show nodes (.tuple [.str "goto", .int 0]) ≤ 4; decide +kernel⟩
  · exact ⟨⟨asc_lit (by decide), by show m.natAbs ≤ 2 ^ 40; omega, by show i.natAbs ≤ 2 ^ 40; omega, trivial⟩, by show wt (.tuple [.str "if", .int 0, .int 0]) ≤ 300; decide +kernel, by show nodes (.tuple [.str "if", .int 0, .int 0]) ≤ 4; decide +kernel⟩
theorem rr_first {K : PySem.W.Frag} {H : Hp} {v : V} {ds : List PyData} (ok : RR ds) (h : Dy K H v (rowW ds)) : ∃ (ua : Addr) (us : List V) (z : Str), v = .ref ua ∧ SqT K H ua us ∧ atI us 0 = some (.str z) ∧ z ≠ "program" := by
  rcases ok with rfl | rfl | rfl | ⟨i, h1, h2, rfl | rfl | rfl⟩ | ⟨m, i, h1, h2, h3, h4, rfl⟩ <;> (cases h with
    | tup hT hA =>
      cases hA with
      | cons q1 q2 =>
        cases q1
        exact ⟨_, _, _, rfl, hT, atI_nat (j := 0) rfl, by decide⟩)
def spPRowR (K : PySem.W.Frag) : Sp := fun vs H Q _ => ∃ (v : V) (ds : List PyData), vs = [v] ∧ RR ds ∧ Dy K H v (rowW ds) ∧ ∀ u H', Ex H H' → Dy K H' u (.tuple ds) → Q u H'
section
variable {P : Program} {w : World} {K : PySem.W.Frag} {mg : Str → Option Value} {base : Heap}
theorem ok_program_row (T : Tp w K mg) : FnOk P w K mg base CX0 1 T.f_program_row T.d_program_row ["words"] (spPRowR K) := by
  refine T.F_program_row.ok sc_program_row (fun vs H Q E h => ?_) (fun cdv A outer s0 H vs Q E hr h => ?_)
  · obtain ⟨v, ds, rfl, _⟩ := h
    rfl
  obtain ⟨v, ds, rfl, ok, dy, q⟩ := h
  refine ⟨_, (pss_one (ps_ret (pe_ifExp (pt_cmpR (eqDK (K := K) rfl (hu_e64 hr)) (pv 0) (pe_tup (pa_cons pe_str pa_nil (star1 rfl))) (nomark _)) (pe_tup (pa_cons pe_str (pa_cons pe_non pa_nil (star1 rfl)) (star1 rfl))) (pv 0)))), ?_⟩
  refine if_raw (tst_raw ?_)
  refine ⟨_, rfl, (by show 1 ≤ sizeLine; decide), fun p hp => ?_⟩
  have e1 := Ex.new (o := .tup [.str "take"]) hp
  have dl : Dp K (upd H p (.tup [.str "take"])) (.ref p) (.tuple [.str "take"]) := dy_dp _ _ rfl (.tup (st_of upd_same) (.cons (.str _) .nil))
  have dy1 := dy_mono e1 dy
  generalize upd H p (.tup [.str "take"]) = H1 at e1 dl dy1 ⊢
  have go : ∀ c : Bool, tupOnly (rowW ds) = true → SeqAt.shaped (rowW ds) = true → PyData.eqv (rowW ds) (.tuple [.str "take"]) = c → (if c = true then tTup (tCons (tC (.str "take")) (tCons (tC .non) tNil)) (L2.start N_program_row [v]) H1 Q else tVar 0 (L2.start N_program_row [v]) H1 Q) → rEqD K v (.ref p) H1 fun x H2 => ∃ k, x = .bl k ∧ if k = true then tTup (tCons (tC (.str "take")) (tCons (tC .non) tNil)) (L2.start N_program_row [v]) H2 Q else tVar 0 (L2.start N_program_row [v]) H2 Q := fun c h1 h2 h3 h4 => ⟨_, _, dy_dp _ _ h1 dy1, dl, h2, by decide +kernel, _, rfl, by rw [h3]; exact h4⟩
  have sh := rr_shaped ok
  rcases ok with rfl | rfl | rfl | ⟨i, _, _, rfl | rfl | rfl⟩ | ⟨m, i, _, _, _, _, rfl⟩
  · refine go true rfl sh (by decide +kernel) (iteT' rfl ?_)
    exact ⟨(by show 2 ≤ sizeLine; decide), fun t ht => q _ _ (e1.trans (Ex.new ht)) (.tup (st_of upd_same) (.cons (.str _) (.cons .non .nil)))⟩
  · exact go false rfl sh (by simp [PyData.eqv, PyData.eqvAll, rowW]; decide) (iteF' rfl ⟨_, rfl, q _ _ e1 dy1⟩)
  · exact go false rfl sh (by simp [PyData.eqv, PyData.eqvAll, rowW]; decide) (iteF' rfl ⟨_, rfl, q _ _ e1 dy1⟩)
  · exact go false rfl sh (by simp [PyData.eqv, PyData.eqvAll, rowW]) (iteF' rfl ⟨_, rfl, q _ _ e1 dy1⟩)
  · exact go false rfl sh (by simp [PyData.eqv, PyData.eqvAll, rowW]) (iteF' rfl ⟨_, rfl, q _ _ e1 dy1⟩)
  · exact go false rfl sh (by simp [PyData.eqv, PyData.eqvAll, rowW]) (iteF' rfl ⟨_, rfl, q _ _ e1 dy1⟩)
  · exact go false rfl sh (by simp [PyData.eqv, PyData.eqvAll, rowW]) (iteF' rfl ⟨_, rfl, q _ _ e1 dy1⟩)
end
/-! ### books read, what is wrong told -/
theorem pgR_to {p : Pg} (h : ∀ ds ∈ p.2, RR ds) : tupOnly (pD p) = true := by
  show (true && (tupOnly (.tuple (p.2.map PyData.tuple)) && true)) = true
  have : tupOnly (.tuple (p.2.map PyData.tuple)) = true := tos_mem fun d hd => by
    obtain ⟨ds, hds, rfl⟩ := List.mem_map.mp hd
    exact rr_to (h ds hds)
  rw [this]
  rfl
def cntB : List Pg → Nat
  | [] => 0
  | p :: s => 1 + p.2.length + cntB s
theorem cnt_app : ∀ a b : List Pg, cntB (a ++ b) = cntB a + cntB b
  | [], b => by simp [cntB]
  | p :: a, b => by
    simp only [List.cons_append, cntB, cnt_app a b]
    omega
theorem cnt_rev : ∀ a : List Pg, cntB a.reverse = cntB a
  | [] => rfl
  | p :: a => by
    rw [List.reverse_cons, cnt_app, cnt_rev a]
    simp only [cntB]
    omega
theorem cnt_step (s : List Pg) (w : BT) : cntB (stepB s w) ≤ cntB s + 1 := by
  cases w with
  | p n => simp only [stepB, cntB, List.length_nil]; omega
  | r ds =>
    cases s with
    | nil => simp [stepB, cntB]
    | cons x s =>
      obtain ⟨n, dss⟩ := x
      simp only [stepB, cntB, List.length_append, List.length_singleton]
      omega
theorem outB_cnt : ∀ (rs : List Str) (i : Nat) (s t : List Pg), outB rs i s = .inr t → cntB t ≤ cntB s + rs.length
  | [], i, s, t, e => by
    simp only [outB, Sum.inr.injEq] at e
    subst e
    rw [cnt_rev]
    exact Nat.le_add_right _ _
  | r :: rs, i, s, t, e => by
    unfold outB at e
    simp only [List.length_cons]
    cases hp : parseB (Txt.split r " ") with
    | none => rw [hp] at e; cases e
    | some w =>
      rw [hp] at e
      simp only at e
      split at e
      · cases e
      · have := outB_cnt rs (i + 1) _ t e
        have := cnt_step s w
        omega
theorem cnt_len : ∀ s : List Pg, s.length ≤ cntB s
  | [] => Nat.le_refl _
  | p :: s => by
    have := cnt_len s
    simp only [List.length_cons, cntB]
    omega
theorem rowsR_nodes : ∀ {rs : List (List PyData)}, (∀ ds ∈ rs, RR ds) → nodess (rs.map PyData.tuple) ≤ 4 * rs.length ∧ okDs (2 ^ 40) (rs.map PyData.tuple)
  | [], _ => by simp [nodess, okDs]
  | ds :: rs, h => by
    obtain ⟨h1, h2⟩ := rowsR_nodes fun es he => h es (List.mem_cons_of_mem _ he)
    obtain ⟨g1, g2, g3⟩ := rr_okD (h ds (List.mem_cons_self ..))
    refine ⟨?_, g1, h2⟩
    simp only [List.map_cons, nodess, List.length_cons]
    omega
theorem lett_asc {n : Str} (h : lettS n = true) : asc n := fun c hc => by
  unfold lettS at h
  rw [Bool.and_eq_true] at h
  have := List.all_eq_true.mp h.2 c hc
  have := small_in.mp (of_decide_eq_true this)
  omega
theorem pgsR_nodes : ∀ {bk : List Pg}, rdPs bk → nodess (bk.map pD) ≤ 4 * cntB bk ∧ okDs (2 ^ 40) (bk.map pD)
  | [], _ => by simp [nodess, okDs]
  | p :: bk, h => by
    obtain ⟨h1, h2⟩ := pgsR_nodes (bk := bk) fun q hq => h q (List.mem_cons_of_mem _ hq)
    obtain ⟨g1, g2⟩ := h p (List.mem_cons_self ..)
    obtain ⟨k1, k2⟩ := rowsR_nodes g2
    refine ⟨?_, ⟨lett_asc g1, k2, trivial⟩, h2⟩
    simp only [List.map_cons, nodess, pD, nodes, cntB]
    omega
theorem at_last {α : Type} (us : List α) (v : α) : atI (us ++ [v]) (-1) = some v := by
  unfold atI ixN
  rw [if_neg (by omega), if_pos (by rw [List.length_append, List.length_singleton]; omega)]
  have e : ((-1 : Int) + ((us.length : Int) + 1)).toNat = us.length := by omega
  simp [e]
def outBZ (z : Str) : Nat ⊕ List Pg := outB (Txt.split z "\n") 0 []
def spRowsX (K : PySem.W.Frag) (CT : Addr) : Sp := fun vs H Q E => ∃ (v : V) (d : PyData), vs = [v] ∧ Dx K H v d ∧
  (∀ z, d = .str z → z.length ≤ 30000 ∧ ∀ r H', Ex H H' → H r = none → H' r = some (.lst ((Txt.split z "\n").map V.str)) → Q (.ref r) H') ∧
  (isStrB d = false → ∀ dd H', Ex H H' → H dd = none → H' dd = some (.xd [("row", .int 0)]) → E (.ref CT) (some dd) H')
def spReadBX (K : PySem.W.Frag) (CT CB : Addr) : Sp := fun vs H Q E => ∃ (pv v : V) (d : PyData) (n : Str) (b : Int) (ms : List Tr) (ys : List Str), vs = [pv, v] ∧ Dx K H v d ∧ TrV H pv (.grp n b ms) ∧ (Tr.grp n b ms).ok ∧ (Tr.grp n b ms).deep ≤ 12 ∧ (Tr.grp n b ms).size < 64 ∧ (Tr.grp n b ms).nms.Nodup ∧ (∀ x ∈ (Tr.grp n b ms).nms, nameOk x) ∧ ys.Perm (handsOf (.grp n b ms)) ∧ PyProof.Rows.sortedS ys = true ∧
  (∀ z, d = .str z → z.length ≤ 30000 ∧ (Txt.split z "\n").length ≤ 140 ∧
    (∀ i, outBZ z = .inl i → ∀ dd H', Ex H H' → H dd = none → H' dd = some (.xd [("row", .int (i : Nat))]) → E (.ref CT) (some dd) H') ∧
    (∀ bk, outBZ z = .inr bk → bookB ys (bookD bk) = false → ∀ H', Ex H H' → E (.ref CB) none H') ∧
    (∀ bk, outBZ z = .inr bk → bookB ys (bookD bk) = true → ∀ u H', Ex H H' → Dy K H' u (bookD bk) → Q u H')) ∧
  (isStrB d = false → ∀ dd H', Ex H H' → H dd = none → H' dd = some (.xd [("row", .int 0)]) → E (.ref CT) (some dd) H')
theorem dl_bookR {K : PySem.W.Frag} {a0 a1 a3 a4 a5 a6 a7 a8 : Option V} {H : Hp} {g : Addr} {xs : List V} {s : List Pg} {as : List Addr} {bk : List Pg} (ok : rdPs bk) (bln : bk.length ≤ 1000) (hg : H g = some (.lst xs)) (hs : PgsV K H xs s as) (e : s.reverse = bk) :
    DL K [a0, a1, some (.ref g), a3, a4, a5, a6, a7, a8] H (tLc (iList K (tVar 2)) (gTup K 2 (gCons (gName 7) (gCons (gName 8) gNil))) tYes (tTup (tCons (tVar 7) (tCons (tCB (rTupF K) (tCons (tVar 8) tNil)) tNil))) [7, 8]) (bk.map pD) := fun H1 Q e1 q => by
  have xl : xs.length = bk.length := by rw [hs.len, ← e, List.length_reverse]
  have hs1 := hs.ex e1
  refine ⟨_, rfl, g, rfl, ⟨xs, sq_of (e1 _ _ hg)⟩, fun D hD => ?_⟩
  refine lc_list (K := K) (a := g) (xs := xs) (fun n H' => Ex H1 H' ∧ ∃ us, H' D = some (.lst us) ∧ DyAll K H' us ((bk.take n).map pD)) ⟨Ex.new hD, [], upd_same, .nil⟩ (fun n H' _ hP => sq_of (hP.1 _ _ (e1 _ _ hg))) ?_ ?_
  · rintro n x H2 hx ⟨e2, us, hacc, dys⟩
    obtain ⟨f, m, hf, tp, vs, rfl, h1, h2, h3, h4⟩ := (hs1.ex e2).get hx
    rw [e] at hf
    have fm := List.mem_of_getElem? hf
    refine ⟨tp, _, rfl, st_of h1, rfl, _, _, rfl, _, _, rfl, rfl, rfl, tYesQ ?_⟩
    refine ⟨_, rfl, _, rfl, m, vs, rfl, sq_of h2, fun l o hl ho => ⟨(by show 2 ≤ sizeLine; decide), fun t ht => ?_⟩⟩
    have d1 := Ex.new (o := .frz o (.tup vs)) hl
    have d2 := Ex.new (o := .tup [.str f.1, .ref l]) ht
    have hl2 := d2 _ _ (upd_same (H := H2) (a := l) (o := .frz o (.tup vs)))
    have ht2 : upd (upd H2 l (.frz o (.tup vs))) t (.tup [.str f.1, .ref l]) t = some (.tup [.str f.1, .ref l]) := upd_same
    have d12 := d1.trans d2
    generalize upd (upd H2 l (.frz o (.tup vs))) t (.tup [.str f.1, .ref l]) = H3 at d12 hl2 ht2 ⊢
    have acc3 := d12 _ _ hacc
    have ul := dya_len dys
    rw [List.length_map, List.length_take] at ul
    have dv : Dy K H3 (.ref t) (pD f) := .tup (st_of ht2) (.cons (.str _) (.cons (.tup (Or.inl (Or.inr ⟨o, hl2⟩)) (dya_mono d12 h3)) .nil))
    refine ⟨us, acc3, sz_lt (by omega), Ex.mut (e2.trans d12) hD, us ++ [.ref t], upd_same, ?_⟩
    rw [take_oneS hf, List.map_append]
    have tos : tupOnlys ((bk.take n).map pD) = true := tos_mem fun d hd => by
      obtain ⟨p, hp, rfl⟩ := List.mem_map.mp hd
      exact pgR_to (ok p (List.mem_of_mem_take hp)).2
    exact dya_app (dya_st (ST.lst acc3) _ _ tos (dya_mono d12 dys)) (.cons (dy_st (ST.lst acc3) _ _ (pgR_to (ok f fm).2) dv) .nil)
  · rintro H2 ⟨e2, us, hacc, dys⟩
    rw [xl, List.take_length] at dys
    exact q D us H2 e2 hacc dys
section
variable {P : Program} {w : World} {K : PySem.W.Frag} {mg : Str → Option Value} {base : Heap}
theorem ok_rows_of (T : Tp w K mg) : FnOk P w K mg base (L2.CX P w) 3 T.f_rows_of T.d_rows_of ["text"] (spRowsX K T.C_NoText) := by
  refine T.F_rows_of.okX sc_rows_of (fun vs H Q E h => ?_) (fun cdv A outer s0 H vs Q E hr h => ?_)
  · obtain ⟨v, d, rfl, _⟩ := h
    rfl
  obtain ⟨v, d, rfl, hd, qs, qn⟩ := h
  refine ⟨_, (pss_cons (ps_if (pt_not (pt_val (pe_callB (isiK (K := K) rfl) rfl T.z_isinstance (by decide +kernel) (pa_cons (pv 0) (pa_cons (pe_bltn (v := .ty "str") rfl T.z_str (by decide +kernel) rfl) pa_nil (star1 rfl)) (star1 rfl)) (by decide) (by decide) (star1 rfl) (starAll rfl)))) (pss_one (ps_raise rfl (takes_of rfl rfl rfl rfl) (pmk_oex T.ox_NoText T.ii_NoText T.ti_NoText (ok_NoText___init__ T) (hr.mono (by decide)) (b_NoText___init__ T) .nil pass0 rfl T.mc_NoText (pa_cons pe_int pa_nil (star1 rfl)) (by decide) (star1 rfl) (starAll rfl)))) pss_nil)
  (pss_one (ps_ret (pe_split (pv 0) pe_str)))), ?_⟩
  refine q_when (et_not (et_B (ev_isX (ev_var rfl) hd (kt_str d)))) (fun hb H1 e1 => ?_) (fun hb H1 e1 => ?_)
  · exact mkx T.ox_NoText T.na_NoText_row fun dd nd => qn (by simpa using hb) dd _ (e1.trans (Ex.new nd)) (fresh_back e1 nd) upd_same
  obtain ⟨z, rfl⟩ : ∃ z, d = .str z := by
    cases d <;> first | exact ⟨_, rfl⟩ | cases hb
  cases hd
  obtain ⟨zl, q⟩ := qs z rfl
  refine s_retP ?_
  exact ⟨_, rfl, ⟨z, rfl⟩, z, "\n", rfl, rfl, by decide, Nat.le_trans (show z.length + 2 ≤ 30002 by omega) (by decide), fun p hp => q p _ (e1.trans (Ex.new hp)) (fresh_back e1 hp) upd_same⟩
end
/-! ### read_book over anything -/
section
variable {P : Program} {w : World} {K : PySem.W.Frag} {mg : Str → Option Value} {base : Heap}
theorem ok_read_book (T : Tp w K mg) : FnOk P w K mg base (L2.CX P w) 16 T.f_read_book T.d_read_book ["plan", "text"] (spReadBX K T.C_NoText T.C_NoBook) := by
  refine T.F_read_book.okX sc_read_book (fun vs H Q E h => ?_) (fun cdv A outer s0 H vs Q E hr h => ?_)
  · obtain ⟨pv, v, d, n, b, ms, ys, rfl, _⟩ := h
    rfl
  obtain ⟨v, tv0, d, n, b, ms, ys, rfl, hd, tv, tok, tdp, tsz, tnd, tnm, hpm, hsd, qs, qn⟩ := h
  refine ⟨_, (pss_cons (ps_set (i := 2) sc_read_book.nd rfl (Or.inl rfl) (pe_lst pa_nil))
  (pss_cons (ps_for (passes_of rfl) rfl (pi_enum rfl T.z_enumerate (pa_cons (pe_callS (ok_rows_of T) (hr.mono (by decide)) rfl T.m_rows_of T.F_rows_of.kp (b_rows_of T) (fun σ => passAt (takes_of rfl rfl rfl rfl) σ) (pa_cons (pv 1) pa_nil (star1 rfl)) (by decide) (star1 rfl) (starAll rfl)) pa_nil (star1 rfl))) (pg_tup rfl (pgs_cons (pg_name (i := 3) sc_read_book.nd rfl (Or.inl rfl)) (pgs_cons (pg_name (i := 4) sc_read_book.nd rfl (Or.inl rfl)) pgs_nil))) (pss_cons (ps_set (i := 6) sc_read_book.nd rfl (Or.inl rfl) (pe_call (ok_read_words T) (hr.mono (by decide)) rfl T.m_read_words T.F_read_words.kp (b_read_words T) .nil pass0 (pa_cons (pv 4) (pa_cons (pe_glob (v := .ref T.a_BOOK) rfl T.c_BOOK rfl) pa_nil (star1 rfl)) (star1 rfl)) (by decide) (star1 rfl) (starAll rfl)))
  (pss_cons (ps_if (PW.pt (pw_or (pt_cmp (pc_isN (pv 6))) (pw_or1 (PW.pt (pw_and (pt_cmpR op_eq (pe_callB (lenK (K := K) rfl) rfl T.z_len PySem.boot_len (pa_cons (pv 2) pa_nil (star1 rfl)) (by decide) (by decide) (star1 rfl) (starAll rfl)) pe_int (nomark _)) (pw_and1 (pt_cmpR op_ne (pe_ix (ixTK (K := K) rfl) (pv 6) pe_int (fun _ _ => rfl)) pe_str (nomark _)))))))) (pss_one (ps_raise rfl (takes_of rfl rfl rfl rfl) (pmk_oex T.ox_NoText T.ii_NoText T.ti_NoText (ok_NoText___init__ T) (hr.mono (by decide)) (b_NoText___init__ T) .nil pass0 rfl T.mc_NoText (pa_cons (pv 3) pa_nil (star1 rfl)) (by decide) (star1 rfl) (starAll rfl)))) pss_nil)
  (pss_one (ps_if (pt_cmpR op_eq (pe_ix (ixTK (K := K) rfl) (pv 6) pe_int (fun _ _ => rfl)) pe_str (nomark _)) (pss_one (ps_expr (pe_bm PySem.F.plainAttrs_list PySem.F.slot_list_append PySem.F.type_list_append mt_append (pv 2) (pa_cons (pe_tup (pa_cons (pe_ix (ixTK (K := K) rfl) (pv 6) pe_int (fun _ _ => rfl)) (pa_cons (pe_lst pa_nil) pa_nil (star1 rfl)) (star1 rfl))) pa_nil (star1 rfl))))) (pss_cons (ps_asg (pe_ix (ixLK (K := K) rfl) (pv 2) (pe_un un_neg pe_int) (fun _ _ => rfl)) (pg_tup rfl (pgs_cons (pg_name (i := 7) sc_read_book.nd rfl (Or.inl rfl)) (pgs_cons (pg_name (i := 8) sc_read_book.nd rfl (Or.inl rfl)) pgs_nil))))
  (pss_one (ps_expr (pe_bm PySem.F.plainAttrs_list PySem.F.slot_list_append PySem.F.type_list_append mt_append (pv 8) (pa_cons (pe_call (ok_program_row T) (hr.mono (by decide)) rfl T.m_program_row T.F_program_row.kp (b_program_row T) .nil pass0 (pa_cons (pv 6) pa_nil (star1 rfl)) (by decide) (star1 rfl) (starAll rfl)) pa_nil (star1 rfl)))))))))))
  (pss_cons (ps_if (pt_not (pt_val (pe_call (ok_is_plan T) (hr.mono (by decide)) rfl T.m_is_plan T.F_is_plan.kp (b_is_plan T) .nil pass0 (pa_cons (pv 0) pa_nil (star1 rfl)) (by decide) (star1 rfl) (starAll rfl)))) (pss_one (ps_raise rfl (takes_of rfl rfl rfl rfl) (pmk_own0 PySem.F.excBase_ValueError T.xp_NoPlan T.mc_NoPlan T.xc_NoPlan.kC (raises_own T.xc_NoPlan.hs T.xc_NoPlan.tyC) rfl))) pss_nil)
  (pss_cons (ps_set (i := 5) sc_read_book.nd rfl (Or.inl rfl) (pe_callTy (call_tupF (K := K) rfl) rfl T.z_tuple (by decide +kernel) (pa_cons (pe_lc (own := [("name", 7), ("rows", 8)]) (g := gTup K 2 (gCons (gName 7) (gCons (gName 8) gNil))) (tt := tYes) rfl sc_read_book.nd (plLK (K := K) rfl (pv 2)) (blkOk_by (N := N_read_book) (sc := defScope s_read_book) (by decide +kernel)) (fun _ _ _ _ _ => (pg_tup rfl (pgs_cons (pg_name (i := 7) sc_read_book.nd rfl (Or.inl rfl)) (pgs_cons (pg_name (i := 8) sc_read_book.nd rfl (Or.inl rfl)) pgs_nil)))) (fun _ _ _ _ _ => pts_nil) (fun _ _ _ _ _ => (pe_tup (pa_cons (pv 7) (pa_cons (pe_callTy (call_tupF (K := K) rfl) rfl T.z_tuple (by decide +kernel) (pa_cons (pv 8) pa_nil (star1 rfl)) (by decide) (by decide) (star1 rfl) (starAll rfl)) pa_nil (star1 rfl)) (star1 rfl))))) pa_nil (star1 rfl)) (by decide) (by decide) (star1 rfl) (starAll rfl)))
  (pss_cons (ps_if (pt_not (pt_val (pe_call (ok_is_book T) (hr.mono (by decide)) rfl T.m_is_book T.F_is_book.kp (b_is_book T) .nil pass0 (pa_cons (pv 0) (pa_cons (pv 5) pa_nil (star1 rfl)) (star1 rfl)) (by decide) (star1 rfl) (starAll rfl)))) (pss_one (ps_raise rfl (takes_of rfl rfl rfl rfl) (pmk_own0 PySem.F.excBase_ValueError T.xp_NoBook T.mc_NoBook T.xc_NoBook.kC (raises_own T.xc_NoBook.hs T.xc_NoBook.tyC) rfl))) pss_nil)
  (pss_one (ps_ret (pv 5)))))))), ?_⟩
  refine q_asgP ?_
  refine ⟨(by show 0 ≤ sizeLine; decide), fun g hg => ?_⟩
  have e1 := Ex.new (o := .lst []) hg
  have hg1 : upd H g (.lst []) g = some (.lst []) := upd_same
  have g0 : H g = none := hg
  generalize upd H g (.lst []) = H1 at e1 hg1 ⊢
  refine q_forU ?_
  refine ⟨_, rfl, tv0, d, rfl, dx_mono e1 hd, fun z hz => ?_, fun hn dd H2 e2 nd hdd => qn hn dd H2 (e1.trans e2) (fresh_back e1 nd) hdd⟩
  subst hz
  cases hd
  obtain ⟨zl, rl, q1, q2, q3⟩ := qs z rfl
  refine ⟨zl, fun r H2 e2 r0 hr2 => ?_⟩
  have rows : ∀ x ∈ Txt.split z "\n", x.length ≤ 30000 := fun x hx => Nat.le_trans (split_part hx) zl
  have whole : outB ((Txt.split z "\n").drop 0) 0 [] = outBZ z := rfl
  have okz : ∀ t, outBZ z = .inr t → rdPs t ∧ cntB t ≤ 140 := fun t h => ⟨outB_rd _ _ _ _ (fun x hx => by simp at hx) h, by
    have := outB_cnt _ _ _ _ h
    simp only [cntB] at this
    omega⟩
  generalize outBZ z = OUT at q1 q2 q3 whole okz
  generalize hws : Txt.split z "\n" = ws at hr2 rl rows whole
  have hg2 := e2 _ _ hg1
  have rg : r ≠ g := fun z => by rw [← z] at hg1; rw [hg1] at r0; cases r0
  have e12 := e1.trans e2
  refine ⟨r, _, rfl, sq_of hr2, ?_⟩
  refine enum_turns (K := K) (a := r) (xs := ws.map V.str) (fun i σ' H' => ∃ (xs : List V) (s : List Pg) (as : List Addr) (c3 c4 c5 c6 c7 c8 : Option V), σ' = [some v, some (.str z), some (.ref g), c3, c4, c5, c6, c7, c8] ∧ (∀ c oc, H c = some oc → H' c = some oc) ∧ H' r = some (.lst (ws.map V.str)) ∧ H' g = some (.lst xs) ∧ PgsV K H' xs s as ∧ g ∉ as ∧ as.Nodup ∧ r ∉ as ∧ (∀ m ∈ as, H m = none) ∧ xs.length ≤ i ∧ (∀ f ∈ s, f.2.length ≤ i) ∧ outB (ws.drop i) i s = OUT) ?_ (fun i σ' H' _ hP => ?_) ?_ ?_
  · exact ⟨[], [], [], _, _, _, _, _, _, rfl, fun c oc z => e12 _ _ z, hr2, hg2, .nil, by simp, List.nodup_nil, by simp, fun m hm => by simp at hm, Nat.zero_le _, fun f hf => by simp at hf, whole⟩
  · obtain ⟨xs, s, as, c3, c4, c5, c6, c7, c8, _, _, hl, _⟩ := hP
    exact sq_of hl
  · rintro i x Tn σ' H3 hx ⟨xs, s, as, c3, c4, c5, c6, c7, c8, rfl, fr, hr3, hg3, hs, na, nd, nr, new, bl, bf, hrun⟩ hT
    rw [List.getElem?_map] at hx
    obtain ⟨y, hwi, rfl⟩ : ∃ y, ws[i]? = some y ∧ x = .str y := by
      cases hz : ws[i]? with
      | none => rw [hz] at hx; cases hx
      | some y => rw [hz] at hx; cases hx; exact ⟨y, rfl, rfl⟩
    have il : i < ws.length := (List.getElem?_eq_some_iff.mp hwi).1
    have hd : ws.drop i = y :: ws.drop (i + 1) := by rw [List.drop_eq_getElem_cons il, (List.getElem?_eq_some_iff.mp hwi).2]
    rw [hd] at hrun
    unfold outB at hrun
    have yl := rows y (List.mem_of_getElem? hwi)
    have e4 := Ex.new (o := .tup [.int (i : Int), .str y]) hT
    refine ⟨Tn, _, rfl, st_of upd_same, rfl, _, _, rfl, _, _, rfl, rfl, ?_⟩
    refine q_asgP ?_
    refine ⟨_, rfl, y, T.a_BOOK, bookFs, rfl, T.D_BOOK _, yl, by decide, by decide, fun u H4 e5 dyw => ?_⟩
    rw [readB_parse] at dyw
    have e34 := e4.trans e5
    have hs4 := hs.ex e34
    have hg4 := e34 _ _ hg3
    have hr4 := e34 _ _ hr3
    have back : ∀ m, H4 m = none → H m = none := fun m z => by
      cases y : H m with
      | none => rfl
      | some oc => rw [e34 _ _ (fr _ _ y)] at z; cases z
    have fr4 : ∀ c oc, H c = some oc → H4 c = some oc := fun c oc z => e34 _ _ (fr _ _ z)
    have xl : xs.length ≤ 2700 := by omega
    have ref : OUT = .inl i → ∀ H9 : Hp, (∀ c oc, H c = some oc → H9 c = some oc) → ∀ dd, H9 dd = none → E (.ref T.C_NoText) (some dd) (upd H9 dd (.xd [("row", .int (i : Int))])) := fun e H9 f9 dd nd => by
      refine q1 i e dd _ (fun c oc hc => (Ex.new nd) _ _ (f9 c oc hc)) ?_ upd_same
      cases hdd : H dd with
      | none => rfl
      | some oc => rw [f9 _ _ hdd] at nd; cases nd
    cases hp : parseB (Txt.split y " ") with
    | none =>
      rw [hp] at hrun dyw
      cases dyw
      refine q_ifQ (or_raw (tB_raw (isN_raw ⟨_, rfl, _, rfl, iteT' rfl (iteT' rfl ?_)⟩)))
      exact ⟨_, rfl, mkx T.ox_NoText T.na_NoText_row fun dd nd' => ref hrun.symm H4 fr4 dd nd'⟩
    | some w =>
    rw [hp] at hrun dyw
    simp only at hrun
    have pr := parseB_rd hp
    cases w with
    | p n =>
      have dyw : Dy K H4 u (.tuple [.str "program", .str n]) := dyw
      rw [if_neg (by simp [isR])] at hrun
      have hrun2 := hrun
      cases dyw with
      | tup hT2 hA =>
      cases hA with
      | cons q1 q2 =>
      cases q2 with
      | cons q2 q3 =>
      cases q1
      cases q2
      cases q3
      rename_i ua
      have hw0 : ∀ {H'}, Ex H4 H' → SqT K H' ua [.str "program", .str n] := fun e => ex_t e hT2
      refine q_when (b := false) (fun H5 e6 Q5 q5 => or_raw (tB_raw (isN_raw ⟨_, rfl, _, rfl, iteF' rfl (and_raw (tst_raw ⟨_, rfl, g, xs, rfl, Or.inl (sq_of (e6 _ _ hg4)), rfl, _, rfl, ite_both (fun _ => tst_raw ⟨_, rfl, ua, _, 0, _, rfl, rfl, hw0 e6, rfl, rfl, _, rfl, q5 H5 (Ex.refl H5)⟩) (fun _ => q5 H5 (Ex.refl H5))⟩))⟩))) (fun hb => by cases hb) (fun _ H5 e6 => ?_)
      refine s_ifP (tst_raw ⟨_, rfl, ua, _, 0, _, rfl, rfl, hw0 e6, rfl, rfl, _, rfl, iteT' rfl ?_⟩)
      have hg5 := e6 _ _ hg4
      refine ⟨_, rfl, Or.inl ⟨rfl, _, sq_of hg5⟩, _, rfl, ua, _, 1, _, rfl, rfl, hw0 e6, rfl, (by show 0 ≤ sizeLine; decide), fun l hl => ⟨(by show 2 ≤ sizeLine; decide), fun t ht => ?_⟩⟩
      have d1 := Ex.new (o := .lst []) hl
      have d2 := Ex.new (o := .tup [.str n, .ref l]) ht
      have hl2 := d2 _ _ (upd_same (H := H5) (a := l) (o := .lst []))
      have ht2 : upd (upd H5 l (.lst [])) t (.tup [.str n, .ref l]) t = some (.tup [.str n, .ref l]) := upd_same
      have d12 := e6.trans (d1.trans d2)
      have l4 : H4 l = none := fresh_back e6 hl
      generalize upd (upd H5 l (.lst [])) t (.tup [.str n, .ref l]) = H6 at d12 hl2 ht2 ⊢
      have hg6 := d12 _ _ hg4
      have lng : l ≠ g := fun z => by rw [z, hg4] at l4; cases l4
      have lno : l ∉ as := fun z => by
        obtain ⟨vs, y⟩ := hs4.old l z
        rw [y] at l4
        cases l4
      refine ⟨g, xs, .ref t, rfl, rfl, hg6, sz_lt (by omega), ?_⟩
      have t7 : ST K H6 (upd H6 g (.lst (xs ++ [.ref t]))) := ST.lst hg6
      have k7 : TK H6 (upd H6 g (.lst (xs ++ [.ref t]))) := TK.lst hg6
      refine ⟨xs ++ [.ref t], (n, []) :: s, l :: as, _, _, _, _, _, _, rfl, fun c oc z => ?_, ?_, upd_same, ?_, fun z => ?_, List.nodup_cons.mpr ⟨lno, nd⟩, fun z => ?_, fun m hm => ?_, ?_, ?_, hrun2⟩
      · rw [upd_ne (fun y => by rw [y, g0] at z; cases z)]
        exact d12 _ _ (fr4 c oc z)
      · rw [upd_ne rg]
        exact d12 _ _ hr4
      · exact .snoc ⟨t, [], rfl, k7 _ _ ht2, by rw [upd_ne lng]; exact hl2, .nil, rfl⟩ (PgsV.put hg6 na (hs4.ex d12))
      · rcases List.mem_cons.mp z with z | z
        · exact lng z.symm
        · exact na z
      · rcases List.mem_cons.mp z with z | z
        · rw [← z, hr4] at l4
          cases l4
        · exact nr z
      · rcases List.mem_cons.mp hm with rfl | hm
        · exact back _ l4
        · exact new m hm
      · rw [List.length_append, List.length_singleton]
        omega
      · intro f hf
        rcases List.mem_cons.mp hf with rfl | hf
        · exact Nat.zero_le _
        · have := bf f hf
          omega
    | r ds =>
      have ok : RR ds := pr
      have dyw : Dy K H4 u (rowW ds) := dyw
      obtain ⟨ua, us, z', rfl, hu, hu0, nz⟩ := rr_first ok dyw
      cases s with
      | nil =>
        rw [if_pos (by rfl)] at hrun
        have x0 : xs = [] := List.length_eq_zero_iff.mp (by rw [hs4.len]; rfl)
        subst x0
        refine q_ifQ (or_raw (tB_raw (isN_raw ⟨_, rfl, _, rfl, iteF' rfl (and_raw (tst_raw ⟨_, rfl, g, _, rfl, Or.inl (sq_of hg4), rfl, _, rfl, iteT' rfl (tst_raw ⟨_, rfl, ua, _, 0, _, rfl, rfl, hu, hu0, rfl, _, rfl, iteT' (by rw [decide_eq_false (fun y => nz (by injection y))]; rfl) ?_⟩)⟩))⟩)))
        exact ⟨_, rfl, mkx T.ox_NoText T.na_NoText_row fun dd nd' => ref hrun.symm H4 fr4 dd nd'⟩
      | cons f s =>
      rw [if_neg (by simp)] at hrun
      have hrun2 := hrun
      cases hs4 with
      | snoc hf hr' =>
      rename_i us' u' as' m
      obtain ⟨tp, vs, rfl, h1, h2, h3, h4⟩ := hf
      refine q_when (b := false) (fun H5 e6 Q5 q5 => or_raw (tB_raw (isN_raw ⟨_, rfl, _, rfl, iteF' rfl (and_raw (tst_raw ⟨_, rfl, g, _, rfl, Or.inl (sq_of (e6 _ _ hg4)), rfl, _, rfl, iteF' (decide_eq_false fun y => ?_) (q5 H5 (Ex.refl H5))⟩))⟩))) (fun hb => by cases hb) (fun _ H5 e6 => ?_)
      · injection y with y
        rw [List.length_append, List.length_singleton] at y
        omega
      refine s_ifP (tst_raw ⟨_, rfl, ua, _, 0, _, rfl, rfl, ex_t e6 hu, hu0, rfl, _, rfl, iteF' (decide_eq_false fun y => nz (by injection y)) ?_⟩)
      refine q_asgG ?_
      refine ⟨_, rfl, 1, rfl, g, _, -1, .ref tp, rfl, rfl, sq_of (e6 _ _ hg4), at_last _ _, tp, _, rfl, st_of (e6 _ _ h1), rfl, _, _, rfl, _, _, rfl, rfl, ?_⟩
      refine ⟨_, rfl, Or.inl ⟨rfl, _, sq_of (e6 _ _ h2)⟩, _, rfl, .ref ua, ds, rfl, ok, dy_mono e6 dyw, fun u2 H6 e7 dy2 => ?_⟩
      have e67 := e6.trans e7
      have hm6 := e67 _ _ h2
      have vl : vs.length ≤ 2700 := by
        have := dya_ln h3
        rw [List.length_map] at this
        have := bf f (by simp)
        omega
      refine ⟨m, vs, _, rfl, rfl, hm6, sz_lt (by omega), ?_⟩
      have t7 : ST K H6 (upd H6 m (.lst (vs ++ [u2]))) := ST.lst hm6
      have k7 : TK H6 (upd H6 m (.lst (vs ++ [u2]))) := TK.lst hm6
      have gm : g ≠ m := fun y => na (by rw [y]; simp)
      have rm : r ≠ m := fun y => nr (by rw [y]; simp)
      obtain ⟨n1, n2⟩ := List.nodup_cons.mp nd
      obtain ⟨fn, fd⟩ := f
      refine ⟨us' ++ [.ref tp], (fn, fd ++ [ds]) :: s, m :: as', _, _, _, _, _, _, rfl, fun c oc z => ?_, ?_, ?_, ?_, na, nd, nr, new, by omega, ?_, hrun2⟩
      · rw [upd_ne (fun y => by rw [y, new m (by simp)] at z; cases z)]
        exact e67 _ _ (fr4 c oc z)
      · rw [upd_ne rm]
        exact e67 _ _ hr4
      · rw [upd_ne gm]
        exact e67 _ _ hg4
      · refine .snoc ⟨tp, vs ++ [u2], rfl, k7 _ _ (e67 _ _ h1), upd_same, ?_, ?_⟩ ((hr'.ex e67).mono t7 k7 fun q hq => upd_ne fun y => n1 (by rw [← y]; exact hq))
        · rw [List.map_append]
          exact dya_app (dya_st t7 _ _ h4 (dya_mono e67 h3)) (.cons (dy_st t7 _ _ (rr_to ok) dy2) .nil)
        · rw [List.map_append]
          refine tos_mem fun d hd => ?_
          rcases List.mem_append.mp hd with hd | hd
          · exact tos_at h4 hd
          · rw [List.mem_singleton.mp hd]
            exact rr_to ok
      · intro p hp
        rcases List.mem_cons.mp hp with rfl | hp
        · have := bf (fn, fd) (by simp)
          show (fd ++ [ds]).length ≤ i + 1
          rw [List.length_append, List.length_singleton]
          have : fd.length ≤ i := this
          omega
        · have := bf p (by simp [hp])
          omega
  · rintro σ' H3 ⟨xs, s, as, c3, c4, c5, c6, c7, c8, rfl, fr, hr3, hg3, hs, na, nd, nr, new, bl, bf, hrun⟩
    rw [List.drop_of_length_le (by rw [List.length_map]; exact Nat.le_refl _)] at hrun
    have hO : OUT = .inr s.reverse := hrun.symm
    obtain ⟨bok, bcn⟩ := okz _ hO
    have bln := cnt_len s.reverse
    generalize hbk : s.reverse = bk at hO bok bcn bln
    have tv3 := trv_tk (TK.ex (fun c oc z => fr c oc z : Ex H H3)) _ _ tv
    obtain ⟨t1, t2, t3⟩ := tree_fits tnm tok (by omega) tdp
    refine q_when (b := false) (et_is (et_not (et_B (b := true) (ev_is (ev_call (ea_cons (ev_var rfl) ea_nil) fun H1 e1 Q' q' E' => ⟨v, _, rfl, tree_dx (trv_tk (TK.ex e1) _ _ tv3), t1, t2, Nat.le_trans t3 (by decide), q'⟩) ?_))) rfl) (fun hb => by cases hb) (fun _ H4 e4 => ?_)
    · rw [plan_tree tok tnm, decide_eq_true tnd]
    refine q_asgP ?_
    refine DE.ofL (dl_bookR bok (by omega) (e4 _ _ hg3) (hs.ex e4) hbk) H4 _ (Ex.refl H4) fun u H5 e5 dyu => ?_
    have dyu : Dy K H5 u (bookD bk) := dyu
    obtain ⟨w2, w4⟩ := pgsR_nodes bok
    have e35 := e4.trans e5
    refine q_when (b := !bookB ys (bookD bk)) (et_not (et_B (ev_call (ea_cons (ev_var rfl) (ea_cons (ev_var rfl) ea_nil)) fun H6 e6 Q' q' E' => ⟨v, u, n, b, ms, bookD bk, 2 ^ 40, rfl, trv_tk (TK.ex (e35.trans e6)) _ _ tv3, tdp, tsz, tnm, dy_dx (dy_mono e6 dyu), ?_, w4, fun ys' H7 hp' hs' e7 => ?_⟩))) (fun hb H6 e6 => ?_) (fun hb H6 e6 => ?_)
    · show nodes (.tuple (bk.map pD)) ≤ 20000
      simp only [nodes]
      omega
    · rw [sorted_unique hs' hsd (hp'.trans hpm.symm)]
      exact q' H7 e7
    · exact q2 bk hO (by simpa using hb) H6 fun c oc z => e6 _ _ (e35 _ _ (fr c oc z))
    · refine s_ret (v := u) (ev_var rfl) fun H7 e7 => ?_
      exact q3 bk hO (by simpa using hb) u H7 (fun c oc z => e7 _ _ (e6 _ _ (e35 _ _ (fr c oc z)))) (dy_mono (e6.trans e7) dyu)
end
/-! ### what the program tells of a book's text -/
def dueB (ys : List Str) : PyData → PyData
  | .str z => match outBZ z with
    | .inl i => .tuple [.str "text", .int (i : Nat)]
    | .inr bk => if bookB ys (bookD bk) = true then bookD bk else .str "book"
  | _ => .tuple [.str "text", .int 0]
theorem dueB_no {ys : List Str} {d : PyData} (h : isStrB d = false) : dueB ys d = .tuple [.str "text", .int 0] := by
  cases d <;> first | rfl | cases h
theorem dueB_l {ys : List Str} {z : Str} {i : Nat} (h : outBZ z = .inl i) : dueB ys (.str z) = .tuple [.str "text", .int i] := by
  simp only [dueB, h]
theorem dueB_p {ys : List Str} {z : Str} {t : List Pg} (h : outBZ z = .inr t) (hb : bookB ys (bookD t) = true) : dueB ys (.str z) = bookD t := by
  simp only [dueB, h, if_pos hb]
theorem dueB_n {ys : List Str} {z : Str} {t : List Pg} (h : outBZ z = .inr t) (hb : bookB ys (bookD t) = false) : dueB ys (.str z) = .str "book" := by
  simp only [dueB, h, hb]
  rfl
theorem q_seqM {t tz : TS} {D : Ends} {σ : L2.St} {H : Hp} (M : L2.St → Hp → Prop) (tail : ∀ σ' H', M σ' H' → tz D σ' H') (go : ∀ R : L2.St → Hp → Prop, (∀ σ' H', M σ' H' → R σ' H') → t { D with nx := R } σ H) : tSeq t tz D σ H := go (tz D) tail
def spTold (K : PySem.W.Frag) : Sp := fun vs H Q _ => ∃ (vp v : V) (d : PyData) (n : Str) (b : Int) (ms : List Tr) (ys : List Str), vs = [vp, v] ∧ Dx K H v d ∧ TrV H vp (.grp n b ms) ∧ (Tr.grp n b ms).ok ∧ (Tr.grp n b ms).deep ≤ 12 ∧ (Tr.grp n b ms).size < 64 ∧ (Tr.grp n b ms).nms.Nodup ∧ (∀ x ∈ (Tr.grp n b ms).nms, nameOk x) ∧ ys.Perm (handsOf (.grp n b ms)) ∧ PyProof.Rows.sortedS ys = true ∧
  (∀ z, d = .str z → z.length ≤ 30000 ∧ (Txt.split z "\n").length ≤ 140) ∧ ∀ u H', Ex H H' → Dy K H' u (dueB ys d) → Q u H'
section
variable {P : Program} {w : World} {K : PySem.W.Frag} {mg : Str → Option Value} {base : Heap}
theorem ok__law_told (T : Tp w K mg) : FnOk P w K mg base CX0 17 T.f__law_told T.d__law_told ["_law_plan_here", "_law_text"] (spTold K) := by
  refine T.F__law_told.ok sc__law_told (fun vs H Q E h => ?_) (fun cdv A outer s H vs Q E hr h => ?_)
  · obtain ⟨vp, v, d, n, b, ms, ys, rfl, _⟩ := h
    rfl
  obtain ⟨vp, v, d, n, b, ms, ys, rfl, hd, tv, tok, tdp, tsz, tnd, tnm, hpm, hsd, hz, q⟩ := h
  refine ⟨_, (pss_cons (ps_asg (pe_tup (pa_cons pe_non (pa_cons pe_non pa_nil (star1 rfl)) (star1 rfl))) (pg_tup rfl (pgs_cons (pg_name (i := 2) sc__law_told.nd rfl (Or.inl rfl)) (pgs_cons (pg_name (i := 3) sc__law_told.nd rfl (Or.inl rfl)) pgs_nil))))
  (pss_cons (ps_try_keep (i := 4) rfl rfl rfl sc__law_told.nd rfl rfl ⟨rfl, by decide, .inl T.mc_LockError⟩ takes0 (fun W pn xe tk _ => (pss_one (ps_set (i := 3) sc__law_told.nd rfl (Or.inl rfl) (pe_callS (ok_read_book T) (hr.mono (by decide)) rfl T.m_read_book T.F_read_book.kp (b_read_book T) (fun σ => passAt tk σ) (pa_cons (pv 0) (pa_cons (pv 1) pa_nil (star1 rfl)) (star1 rfl)) (by decide) (star1 rfl) (starAll rfl))))) (fun a oe cls d pn hz hf => (pss_one (ps_set (i := 2) sc__law_told.nd rfl (Or.inl rfl) (pv 4)))))
  (pss_one (ps_ret (pe_ifExp (pt_cmp (pc_isN (pv 2))) (pv 3) (pe_call (ok__law_class T) (hr.mono (by decide)) rfl T.m__law_class T.F__law_class.kp (b__law_class T) .nil pass0 (pa_cons (pv 2) pa_nil (star1 rfl)) (by decide) (star1 rfl) (starAll rfl))))))), ?_⟩
  refine q_asgG ?_
  refine ⟨(by show 2 ≤ sizeLine; decide), fun tp htp => ?_⟩
  have e1 := Ex.new (o := .tup [.non, .non]) htp
  refine ⟨tp, _, rfl, st_of upd_same, rfl, _, _, rfl, _, _, rfl, rfl, ?_⟩
  generalize upd H tp (.tup [.non, .non]) = H1 at e1 ⊢
  refine q_seqM (fun σ' H' => Ex H H' ∧ ∃ c1 c2 c3, σ' = [some vp, some v, some c1, some c2, c3] ∧ ((c1 = .non ∧ Dy K H' c2 (dueB ys d)) ∨ ∃ a, c1 = .ref a ∧ ((∃ dd i, H' a = some (XcO (.ref T.C_NoText) (some dd) a) ∧ H' dd = some (.xd [("row", .int i)]) ∧ dueB ys d = .tuple [.str "text", .int i]) ∨ (H' a = some (XcO (.ref T.C_NoBook) none a) ∧ dueB ys d = .str "book")))) ?tail ?go
  case go =>
    intro R hR
    have txt : ∀ (i : Int) (dd : Addr) (H2 : Hp), dueB ys d = .tuple [.str "text", .int i] → Ex H1 H2 → H2 dd = some (.xd [("row", .int i)]) → ∀ a, H2 a = none → R [some vp, some v, some (.ref a), some .non, none] (upd H2 a (XcO (.ref T.C_NoText) (some dd) a)) := fun i dd H2 hdue e2 hdd a na =>
      hR _ _ ⟨(e1.trans e2).trans (Ex.new na), _, _, _, rfl, Or.inr ⟨a, rfl, Or.inl ⟨dd, i, upd_same, Ex.new na _ _ hdd, hdue⟩⟩⟩
    refine ⟨_, rfl, _, rfl, vp, v, d, n, b, ms, ys, rfl, dx_mono e1 hd, trv_tk (TK.ex e1) _ _ tv, tok, tdp, tsz, tnd, tnm, hpm, hsd, fun z hdz => ?_, fun hn dd H2 e2 nd hdd => ?_⟩
    · subst hdz
      obtain ⟨z1, z2⟩ := hz z rfl
      refine ⟨z1, z2, fun i hi dd H2 e2 nd hdd => ?_, fun t ht hb H2 e2 => ?_, fun t ht hb u H2 e2 dyu => ?_⟩
      · exact ⟨true, T.xc_LockError.exm T.sb_NoText_LockError, fun _ a na => ⟨.ref a, rfl, txt i dd H2 (dueB_l hi) e2 hdd a na⟩, fun z => nomatch z⟩
      · exact ⟨true, T.xc_LockError.exm T.sb_NoBook_LockError, fun _ a na => ⟨.ref a, rfl, hR _ _ ⟨(e1.trans e2).trans (Ex.new na), _, _, _, rfl, Or.inr ⟨a, rfl, Or.inr ⟨upd_same, dueB_n ht hb⟩⟩⟩⟩, fun z => nomatch z⟩
      · exact hR _ _ ⟨e1.trans e2, _, _, _, rfl, Or.inl ⟨rfl, by rw [dueB_p ht hb]; exact dyu⟩⟩
    · exact ⟨true, T.xc_LockError.exm T.sb_NoText_LockError, fun _ a na => ⟨.ref a, rfl, txt 0 dd H2 (dueB_no hn) e2 hdd a na⟩, fun z => nomatch z⟩
  case tail =>
    rintro σ' H2 ⟨e2, c1, c2, c3, rfl, h⟩
    refine s_retP (if_raw (tB_raw (isN_raw ⟨_, rfl, _, rfl, ?_⟩)))
    rcases h with ⟨rfl, dy⟩ | ⟨a, rfl, h⟩
    · exact iteT' rfl ⟨_, rfl, q _ _ e2 dy⟩
    · refine iteF' rfl ⟨_, rfl, a, rfl, ?_⟩
      rcases h with ⟨dd, i, ha, hdd, hdue⟩ | ⟨ha, hdue⟩
      · exact Or.inl ⟨dd, i, ha, hdd, fun r H3 e3 _ hr => q _ _ (e2.trans e3) (by rw [hdue]; exact .tup (st_of hr) (.cons (.str _) (.cons (.int _) .nil)))⟩
      · exact Or.inr ⟨ha, fun H3 e3 => q _ _ (e2.trans e3) (by rw [hdue]; exact .str _)⟩
end
/-! ### what is told of a book's text can be shown -/
def lnB : List Pg → Nat
  | [] => 0
  | p :: s => p.1.length + lnB s
theorem ln_app : ∀ a b : List Pg, lnB (a ++ b) = lnB a + lnB b
  | [], b => by simp [lnB]
  | p :: a, b => by
    simp only [List.cons_append, lnB, ln_app a b]
    omega
theorem ln_rev : ∀ a : List Pg, lnB a.reverse = lnB a
  | [] => rfl
  | p :: a => by
    rw [List.reverse_cons, ln_app, ln_rev a]
    simp only [lnB]
    omega
theorem outB_ln : ∀ (rs : List Str) (i : Nat) (s t : List Pg), outB rs i s = .inr t → lnB t ≤ lnB s + (rs.map Str.length).sum
  | [], i, s, t, e => by
    simp only [outB, Sum.inr.injEq] at e
    subst e
    rw [ln_rev]
    exact Nat.le_add_right _ _
  | r :: rs, i, s, t, e => by
    unfold outB at e
    simp only [List.map_cons, List.sum_cons]
    cases hp : parseB (Txt.split r " ") with
    | none => rw [hp] at e; cases e
    | some w =>
      rw [hp] at e
      simp only at e
      split at e
      · cases e
      · have h1 := outB_ln rs (i + 1) _ t e
        have h2 : lnB (stepB s w) ≤ lnB s + r.length := by
          have pr := parseB_rd hp
          cases w with
          | p n =>
            have := split_part pr.2
            simp only [stepB, lnB]
            omega
          | r ds =>
            cases s with
            | nil => simp [stepB, lnB]
            | cons x s =>
              obtain ⟨n, dss⟩ := x
              simp only [stepB, lnB]
              omega
        omega
theorem rowsR_wt : ∀ {rs : List (List PyData)}, (∀ ds ∈ rs, RR ds) → wts (rs.map PyData.tuple) ≤ 300 * rs.length ∧ PyData.depthAll (rs.map PyData.tuple) ≤ 1
  | [], _ => by simp [wts, PyData.depthAll]
  | ds :: rs, h => by
    obtain ⟨h1, h2⟩ := rowsR_wt fun es he => h es (List.mem_cons_of_mem _ he)
    have ok := h ds (List.mem_cons_self ..)
    obtain ⟨g1, g2, g3⟩ := rr_okD ok
    have g4 : PyData.depth (.tuple ds) ≤ 1 := by
      rcases ok with rfl | rfl | rfl | ⟨i, _, _, rfl | rfl | rfl⟩ | ⟨m, i, _, _, _, _, rfl⟩ <;> simp [PyData.depth, PyData.depthAll]
    refine ⟨?_, ?_⟩
    · simp only [List.map_cons, wts, List.length_cons]
      omega
    · simp only [List.map_cons, PyData.depthAll]
      omega
theorem pgsR_wt : ∀ {bk : List Pg}, rdPs bk → wts (bk.map pD) ≤ 10 * lnB bk + 300 * cntB bk ∧ PyData.depthAll (bk.map pD) ≤ 3
  | [], _ => by simp [wts, PyData.depthAll]
  | p :: bk, h => by
    obtain ⟨h1, h2⟩ := pgsR_wt (bk := bk) fun q hq => h q (List.mem_cons_of_mem _ hq)
    obtain ⟨g1, g2⟩ := h p (List.mem_cons_self ..)
    obtain ⟨k1, k2⟩ := rowsR_wt g2
    refine ⟨?_, ?_⟩
    · simp only [List.map_cons, wts, wt, pD, lnB, cntB]
      omega
    · simp only [List.map_cons, PyData.depthAll, PyData.depth, pD]
      omega
theorem dueB_shows {ys : List Str} {z : Str} (zl : z.length ≤ 30000) (rl : (Txt.split z "\n").length ≤ 140) : showsZ (dueB ys (.str z)) := by
  cases h : outBZ z with
  | inl i =>
    rw [dueB_l h]
    have hi := outB_lt _ _ _ _ h
    have f := text_facts (B := 2 ^ 40) (by decide) (.tuple [.str "text", .int (i : Nat)]) ⟨asc_lit (by decide), by show ((i : Nat) : Int).natAbs ≤ 2 ^ 40; omega, trivial⟩
    refine ⟨f.1, by simp [PyData.depth, PyData.depthAll], Nat.le_trans (Nat.le_trans (Nat.le_add_right _ 2) f.2.1) ?_⟩
    show wt (.tuple [.str "text", .int 0]) ≤ _
    decide +kernel
  | inr bk =>
    cases hb : bookB ys (bookD bk) with
    | true =>
      rw [dueB_p h hb]
      have rd := outB_rd _ _ _ _ (fun x hx => by simp at hx) h
      have c1 := outB_cnt _ _ _ _ h
      have c2 := outB_ln _ _ _ _ h
      have c3 := len_rows z
      simp only [cntB, lnB] at c1 c2
      obtain ⟨_, k2⟩ := pgsR_nodes rd
      obtain ⟨k3, k4⟩ := pgsR_wt rd
      have f := text_facts (B := 2 ^ 40) (by decide) (bookD bk) k2
      refine ⟨f.1, ?_, Nat.le_trans (Nat.le_trans (Nat.le_add_right _ 2) f.2.1) ?_⟩
      · show PyData.depth (.tuple (bk.map pD)) ≤ 300
        simp only [PyData.depth]
        omega
      · show wt (.tuple (bk.map pD)) ≤ 10000000
        simp only [wt]
        omega
    | false =>
      rw [dueB_n h hb]
      have f := text_facts (B := 2 ^ 40) (by decide) (.str "book") (asc_lit (by decide))
      exact ⟨f.1, by simp [PyData.depth], Nat.le_trans (Nat.le_trans (Nat.le_add_right _ 2) f.2.1) (by decide +kernel)⟩
/-! ### the law's own form of a row -/
theorem par2_raw90 {i j : Nat} {ta : TA} {tz : TS} {D : Ends} {σ : L2.St} {H : Hp} (h : ta σ H fun vs H1 => ∃ u v, vs = [u, v] ∧ tz D ((σ.set i (some u)).set j (some v)) H1) : tSeq (tPar i j ta) tz D σ H := h
theorem inV_strs (x : Str) : ∀ ys : List Str, inV (.str x) (ys.map V.str) = decide (x ∈ ys)
  | [] => by simp [inV]
  | y :: ys => by
    have ih := inV_strs x ys
    unfold inV at ih ⊢
    simp only [List.map_cons, List.any_cons, ih, List.mem_cons, Bool.decide_or]
    congr 1
    rw [Bool.eq_iff_iff]
    show (y == x) = true ↔ decide (x = y) = true
    rw [decide_eq_true_iff]
    exact ⟨fun h => (eq_of_beq h).symm, fun h => beq_iff_eq.mpr h.symm⟩
theorem flat_strs : ∀ ys : List Str, (ys.map V.str).all flatV = true
  | [] => rfl
  | y :: ys => by
    rw [List.map_cons, List.all_cons, flat_strs ys]
    rfl
theorem et_in90 {K : PySem.W.Frag} {σ : L2.St} {H : Hp} {te : TE} {ta : TA} {x : Str} (ys : List Str) (hx : Ev te σ H (.str x)) (hy : EvA ta σ H (ys.map V.str)) (hl : ys.length ≤ 1000) : EvT (tTest (tOp (rIn K false) te (tTup ta))) σ H (decide (x ∈ ys)) := fun H1 e Q q =>
  hx H1 e _ fun H2 e2 => hy H2 (e.trans e2) _ fun H3 e3 => ⟨sz_of (by rw [List.length_map]; omega), fun p hp => ⟨p, _, rfl, Or.inr (st_of upd_same), rfl, flat_strs ys, _, rfl, by rw [if_neg (by decide), inV_strs]; exact q _ (e2.trans (e3.trans (Ex.new hp)))⟩⟩
theorem et_notin90 {K : PySem.W.Frag} {σ : L2.St} {H : Hp} {te : TE} {ta : TA} {x : Str} (ys : List Str) (hx : Ev te σ H (.str x)) (hy : EvA ta σ H (ys.map V.str)) (hl : ys.length ≤ 1000) : EvT (tTest (tOp (rIn K true) te (tTup ta))) σ H (!decide (x ∈ ys)) := fun H1 e Q q =>
  hx H1 e _ fun H2 e2 => hy H2 (e.trans e2) _ fun H3 e3 => ⟨sz_of (by rw [List.length_map]; omega), fun p hp => ⟨p, _, rfl, Or.inr (st_of upd_same), rfl, flat_strs ys, _, rfl, by rw [if_pos rfl, inV_strs]; exact q _ (e2.trans (e3.trans (Ex.new hp)))⟩⟩
theorem ev_slTo90 {σ : L2.St} {H : Hp} {te : TE} {z : Str} (h : Ev te σ H (.str z)) (hz : z.length ≤ 30000) : Ev (tSl rSlS te tNoPart (tPart (tC (.int 1)))) σ H (.str (cutS z none (some 1))) := fun H1 e Q q =>
  h H1 e _ fun H2 e2 => ⟨1, rfl, z, rfl, Nat.le_trans hz (by decide), q H2 e2⟩
theorem ev_slFrom90 {σ : L2.St} {H : Hp} {te : TE} {z : Str} (h : Ev te σ H (.str z)) (hz : z.length ≤ 30000) : Ev (tSl rSlS te (tPart (tC (.int 1))) tNoPart) σ H (.str (tailS z)) := fun H1 e Q q =>
  h H1 e _ fun H2 e2 => ⟨1, rfl, z, rfl, Nat.le_trans hz (by decide), q H2 e2⟩
theorem ev_wd90 {K : PySem.W.Frag} {σ : L2.St} {H : Hp} {i j : Nat} {p : Addr} {ws : List Str} {a : Str} (hσ : σ[i]? = some (some (.ref p))) (hp : H p = some (.lst (ws.map V.str))) (ha : ws[j]? = some a) : Ev (tOp (rIxL K) (tVar i) (tC (.int (j : Int)))) σ H (.str a) := fun H1 e1 Q q =>
  ⟨_, hσ, p, _, (j : Int), _, rfl, rfl, sq_of (e1 _ _ hp), atI_nat (by rw [List.getElem?_map, ha]; rfl), q H1 (Ex.refl H1)⟩
theorem ev_ln90 {K : PySem.W.Frag} {σ : L2.St} {H : Hp} {i : Nat} {p : Addr} {xs : List V} (hσ : σ[i]? = some (some (.ref p))) (hp : H p = some (.lst xs)) : Ev (tCB (fun ys H Q => ∃ x n, ys = [x] ∧ LenV K x H n ∧ Q (V.int (n : Nat)) H) (tCons (tVar i) tNil)) σ H (.int (xs.length : Nat)) := fun H1 e1 Q k =>
  ⟨_, hσ, .ref p, xs.length, rfl, Or.inl ⟨xs, sq_of (e1 _ _ hp), rfl⟩, k H1 (Ex.refl H1)⟩
theorem ev_nn90 {σ : L2.St} {H : Hp} {ta : TE} {x : V} (ha : Ev ta σ H x) : Ev (tNotN ta) σ H (.bl (!decide (x = .non))) := fun H1 e Q q => ha H1 e _ fun H2 e2 => q H2 e2
theorem sc_str90 (a b : Str) : scal (.str a) (.str b) = true := rfl
theorem dec_str (a b : Str) : decide (V.str a = V.str b) = decide (a = b) := decide_eq_decide.mpr ⟨fun h => by injection h, fun h => congrArg V.str h⟩
theorem q_seqM90 {t tz : TS} {D : Ends} {σ : L2.St} {H : Hp} (M : L2.St → Hp → Prop) (tail : ∀ σ' H', M σ' H' → tz D σ' H') (go : ∀ R : L2.St → Hp → Prop, (∀ σ' H', M σ' H' → R σ' H') → t { D with nx := R } σ H) : tSeq t tz D σ H := go (tz D) tail
theorem dig_ge : ∀ (cs : List Nat) (acc : Nat), acc ≤ cs.foldl (fun acc c => acc * 10 + (c - 48)) acc
  | [], _ => Nat.le_refl _
  | c :: cs, acc => Nat.le_trans (by omega) (dig_ge cs (acc * 10 + (c - 48)))
theorem num_pos {z : Str} (h : numB z = true) : (z = "0" ∧ numV z = 0) ∨ (z ≠ "0" ∧ 0 < numV z) := by
  by_cases e : z = "0"
  · subst e
    exact Or.inl ⟨rfl, by decide +kernel⟩
  refine Or.inr ⟨e, ?_⟩
  obtain ⟨h1, h2, h3⟩ := num_len h
  obtain ⟨c, hc, hs⟩ := head_zero (z := z) h1
  have c48 : c ≠ 48 := fun k => by
    unfold numB at h
    rw [if_neg (fun w => w ⟨h1, h2⟩), if_pos ⟨hs.mpr k, e⟩] at h
    cases h
  have hd := fig_all.mp h3
  cases hz : z.cps.toList with
  | nil => rw [hz] at hc; cases hc
  | cons a cs =>
    rw [hz] at hc
    cases hc
    have hl : z.cps.toList.length = z.length := by simp [Str.length]
    have k := PySem.intText_digits hd (fun k => by rw [hz] at k; cases k) (by omega)
    unfold numV
    rw [k]
    have ha := hd c (by rw [hz]; simp)
    unfold PySem.NumText.digitsVal
    rw [hz, List.foldl_cons]
    have := dig_ge cs (0 * 10 + (c - 48))
    show (0 : Int) < ((cs.foldl (fun acc c => acc * 10 + (c - 48)) (0 * 10 + (c - 48)) : Nat) : Int)
    omega
theorem sgn_val {z : Str} (c : Txt.startswith z "-" = true) (h : numB (tailS z) = true) : numV z = - numV (tailS z) := by
  obtain ⟨h1, h2, h3⟩ := num_len h
  have hd : z.cps.toList[0]? = some 45 := sw_one.mp c
  cases hz : z.cps.toList with
  | nil => rw [hz] at hd; cases hd
  | cons a cs =>
    rw [hz] at hd
    cases hd
    have ht := tail_tl hz
    have tl1 : (tailS z).length = cs.length := by
      have : (tailS z).cps.toList.length = (tailS z).length := by simp [Str.length]
      rw [ht] at this
      omega
    have hcs : NumText.AllDigits cs := by rw [← ht]; exact fig_all.mp h3
    have ne : cs ≠ [] := fun e => by rw [e] at tl1; simp at tl1; omega
    have zl : z.length = cs.length + 1 := by
      have : z.cps.toList.length = z.length := by simp [Str.length]
      rw [hz] at this
      simpa using this.symm
    have e := PySem.intText_neg hz hcs ne (by omega)
    have e2 := PySem.intText_digits (fig_all.mp h3) (fun k => by rw [ht] at k; exact ne k) (by omega)
    rw [ht] at e2
    unfold numV
    rw [e, e2]
    rfl
theorem min_zero {z : Str} (c : Txt.startswith z "-" = true) : z = "-0" ↔ tailS z = "0" := by
  have hd : z.cps.toList[0]? = some 45 := sw_one.mp c
  cases hz : z.cps.toList with
  | nil => rw [hz] at hd; cases hd
  | cons a cs =>
    rw [hz] at hd
    cases hd
    have ht := tail_tl hz
    have e0 : ("0" : Str).cps.toList = [48] := by decide +kernel
    have e1 : ("-0" : Str).cps.toList = [45, 48] := by decide +kernel
    constructor
    · intro k
      refine TL.ext_tl ?_
      show (tailS z).cps.toList = ("0" : Str).cps.toList
      rw [k, e1] at hz
      rw [ht, e0]
      exact (List.cons.inj hz).2.symm
    · intro k
      refine TL.ext_tl ?_
      show z.cps.toList = ("-0" : Str).cps.toList
      rw [k, e0] at ht
      rw [hz, e1, ← ht]
theorem first_min {z : Str} : decide (cutS z none (some 1) = "-") = Txt.startswith z "-" := by
  have e1 : ("-" : Str).cps.toList = [45] := by decide +kernel
  have hc : (cutS z none (some 1)).cps.toList = z.cps.toList.take 1 := cutS_to (i := 1)
  rw [Bool.eq_iff_iff, decide_eq_true_iff]
  have sw : Txt.startswith z "-" = true ↔ z.cps.toList[0]? = some 45 := sw_one
  rw [sw]
  constructor
  · intro k
    rw [k, e1] at hc
    cases hz : z.cps.toList with
    | nil => rw [hz] at hc; cases hc
    | cons a cs =>
      rw [hz] at hc
      have : a = 45 := by simpa using hc.symm
      rw [this]
      rfl
  · intro k
    refine TL.ext_tl ?_
    show (cutS z none (some 1)).cps.toList = ("-" : Str).cps.toList
    rw [hc, e1]
    cases hz : z.cps.toList with
    | nil => rw [hz] at k; cases k
    | cons a cs =>
      rw [hz] at k
      cases k
      rfl
def formV : Option BT → PyData
  | none => .none
  | some (.p n) => .tuple [.str "program", .str n]
  | some (.r ds) => .tuple ds
def sgV (z : Str) : V := if signB z = true then .int (numV z) else .non
theorem sgV_pos {z : Str} (c : Txt.startswith z "-" = false) : sgV z = cntV z := by
  unfold sgV cntV signB
  rw [c, if_neg Bool.false_ne_true]
theorem sgV_no {z : Str} (c : Txt.startswith z "-" = true) (h : numB (tailS z) = false) : sgV z = .non := by
  unfold sgV signB
  rw [if_pos c, h, Bool.and_false]
  rfl
theorem sgV_neg {z : Str} (c : Txt.startswith z "-" = true) (h : numB (tailS z) = true) (p : 0 < numV (tailS z)) : sgV z = .int (0 - numV (tailS z)) := by
  have nz : z ≠ "-0" := fun e => by
    rcases num_pos h with ⟨_, k⟩ | ⟨k, _⟩
    · omega
    · exact k ((min_zero c).mp e)
  unfold sgV signB
  rw [if_pos c, h, Bool.and_true, if_pos (decide_eq_true nz), sgn_val c h]
  congr 1
  omega
theorem sgV_zero {z : Str} (c : Txt.startswith z "-" = true) (h : numB (tailS z) = true) (p : ¬ 0 < numV (tailS z)) : sgV z = .non := by
  have nz : z = "-0" := by
    rcases num_pos h with ⟨k, _⟩ | ⟨_, k⟩
    · exact (min_zero c).mpr k
    · exact absurd k p
  unfold sgV signB
  rw [if_pos c, nz]
  rfl
theorem pf_try {a : Str} (h : a ∈ (["try", "let"] : List Str)) : parseB [a] = some (.r [.str a]) := by
  simp only [List.mem_cons, List.not_mem_nil, or_false] at h
  have t1 : ¬ ("try" : Str) = "take" := by decide
  have t2 : ¬ ("let" : Str) = "take" := by decide
  have t3 : ¬ ("let" : Str) = "try" := by decide
  rcases h with rfl | rfl
  · simp only [parseB]
    rw [if_neg t1, if_pos trivial]
  · simp only [parseB]
    rw [if_neg t2, if_neg t3, if_pos trivial]
theorem pf_tryN {a b : Str} {r : List Str} (h : a ∈ (["try", "let"] : List Str)) : parseB (a :: b :: r) = none := by
  simp only [List.mem_cons, List.not_mem_nil, or_false] at h
  have np : a ≠ "program" := by rcases h with rfl | rfl <;> decide
  have n1 : a ≠ "take" := by rcases h with rfl | rfl <;> decide
  have n2 : a ≠ "say" := by rcases h with rfl | rfl <;> decide
  have n3 : a ≠ "goto" := by rcases h with rfl | rfl <;> decide
  have n4 : a ≠ "if" := by rcases h with rfl | rfl <;> decide
  rcases r with _ | ⟨c, _ | ⟨d, r⟩⟩
  · simp only [parseB]
    rw [if_neg (fun k => np k.1), if_neg (fun k => n1 k.1), if_neg (fun k => n2 k.1), if_neg (fun k => n3 k.1)]
  · simp only [parseB]
    rw [if_neg (fun k => n4 k.1)]
  · rfl
theorem pf_if {ar : List Str} (h : ar.length ≠ 2) : parseB ("if" :: ar) = none := by
  rcases ar with _ | ⟨x, _ | ⟨y, _ | ⟨z, r⟩⟩⟩
  · have t1 : ¬ ("if" : Str) = "take" := by decide
    have t2 : ¬ ("if" : Str) = "try" := by decide
    have t3 : ¬ ("if" : Str) = "let" := by decide
    simp only [parseB]
    rw [if_neg t1, if_neg t2, if_neg t3]
  · have t1 : ¬ ("if" : Str) = "program" := by decide
    have t2 : ¬ ("if" : Str) = "take" := by decide
    have t3 : ¬ ("if" : Str) = "say" := by decide
    have t4 : ¬ ("if" : Str) = "goto" := by decide
    simp only [parseB]
    rw [if_neg (fun k => t1 k.1), if_neg (fun k => t2 k.1), if_neg (fun k => t3 k.1), if_neg (fun k => t4 k.1)]
  · simp at h
  · rfl
theorem pf_one {a : Str} {ar : List Str} (h0 : a ∉ (["try", "let"] : List Str)) (h1 : ¬ (a = "take" ∧ ar = [])) (h2 : a ≠ "if") (h : ar.length ≠ 1) : parseB (a :: ar) = none := by
  simp only [List.mem_cons, List.not_mem_nil, or_false, not_or] at h0
  rcases ar with _ | ⟨x, _ | ⟨y, _ | ⟨z, r⟩⟩⟩
  · simp only [parseB]
    rw [if_neg (fun k => h1 ⟨k, rfl⟩), if_neg h0.1, if_neg h0.2]
  · simp at h
  · simp only [parseB]
    rw [if_neg (fun k => h2 k.1)]
  · rfl
theorem pf_two {a x : Str} (h : a ∉ (["program", "take", "say", "goto"] : List Str)) : parseB [a, x] = none := by
  simp only [List.mem_cons, List.not_mem_nil, or_false, not_or] at h
  obtain ⟨h1, h2, h3, h4⟩ := h
  simp only [parseB]
  rw [if_neg (fun k => h1 k.1), if_neg (fun k => h2 k.1), if_neg (fun k => h3 k.1), if_neg (fun k => h4 k.1)]
theorem pf_num {a x : Str} (h : a ∈ (["take", "say", "goto"] : List Str)) : parseB [a, x] = if numB x = true then some (.r [.str a, .int (numV x)]) else none := by
  simp only [List.mem_cons, List.not_mem_nil, or_false] at h
  have np : a ≠ "program" := by rcases h with rfl | rfl | rfl <;> decide
  simp only [parseB]
  rw [if_neg (fun k => np k.1)]
  cases hx : numB x with
  | false =>
    rw [if_neg (fun k => by cases k.2), if_neg (fun k => by cases k.2), if_neg (fun k => by cases k.2)]
    rfl
  | true =>
    have d1 : ¬ ("say" : Str) = "take" := by decide
    have d2 : ¬ ("goto" : Str) = "take" := by decide
    have d3 : ¬ ("goto" : Str) = "say" := by decide
    rcases h with rfl | rfl | rfl
    · rw [if_pos ⟨rfl, rfl⟩]
      rfl
    · rw [if_neg (fun k => d1 k.1), if_pos ⟨rfl, rfl⟩]
      rfl
    · rw [if_neg (fun k => d2 k.1), if_neg (fun k => d3 k.1), if_pos ⟨rfl, rfl⟩]
      rfl
def spForm90 (K : PySem.W.Frag) : Sp := fun vs H Q _ => ∃ y : Str, vs = [.str y] ∧ y.length ≤ 30000 ∧ ∀ u H', Ex H H' → Dy K H' u (formV (parseB (Txt.split y " "))) → Q u H'
section
variable {P : Program} {w : World} {K : PySem.W.Frag} {mg : Str → Option Value} {base : Heap}
theorem ok__law_form (T : Tp w K mg) : FnOk P w K mg base CX0 2 T.f__law_form T.d__law_form ["_law_line"] (spForm90 K) := by
  refine T.F__law_form.ok sc__law_form (fun vs H Q E h => ?_) (fun cdv A outer s H vs Q E hr h => ?_)
  · obtain ⟨y, rfl, _⟩ := h
    rfl
  obtain ⟨y, rfl, yl, q⟩ := h
  refine ⟨_, (pss_cons (ps_par rfl sc__law_form.nd (i := 1) (j := 2) rfl rfl (by decide) rfl rfl (pa_cons (pe_ix (ixLK (K := K) rfl) (pe_split (pv 0) pe_str) pe_int (fun _ _ => rfl)) (pa_cons (pe_slice sl_list (pe_split (pv 0) pe_str) (po_some pe_int) po_none) pa_nil (star1 rfl)) (star1 rfl)) (by rfl))
  (pss_cons (ps_if (pt_cmpR (inSK (K := K) rfl) (pv 1) (pe_tup (pa_cons pe_str (pa_cons pe_str pa_nil (star1 rfl)) (star1 rfl))) (by with_unfolding_all rfl)) (pss_one (ps_ret (pe_ifExp (pt_cmpR (eqL0K (K := K) rfl (hu_e hr)) (pv 2) (pe_lst pa_nil) (nomark _)) (pe_tup (pa_cons (pv 1) pa_nil (star1 rfl))) pe_non))) pss_nil)
  (pss_cons (ps_if (PW.pt (pw_and (pt_cmpR op_eq (pv 1) pe_str (nomark _)) (pw_and1 (pt_cmpR (eqL0K (K := K) rfl (hu_e hr)) (pv 2) (pe_lst pa_nil) (nomark _))))) (pss_one (ps_ret (pe_tup (pa_cons (pv 1) (pa_cons pe_non pa_nil (star1 rfl)) (star1 rfl))))) pss_nil)
  (pss_cons (ps_if (pt_cmpR op_eq (pv 1) pe_str (nomark _)) (pss_cons (ps_if (pt_cmpR op_ne (pe_callB call_len rfl T.z_len PySem.boot_len (pa_cons (pv 2) pa_nil (star1 rfl)) (by decide) (by decide) (star1 rfl) (starAll rfl)) pe_int (nomark _)) (pss_one (ps_ret pe_non)) pss_nil)
  (pss_cons (ps_set (i := 4) sc__law_form.nd rfl (Or.inl rfl) (pe_ifExp (pt_cmpR op_ne (pe_slice sl_str (pe_ix (ixLK (K := K) rfl) (pv 2) pe_int (fun _ _ => rfl)) po_none (po_some pe_int)) pe_str (nomark _)) (pe_call (ok__law_count T) (hr.mono (by decide)) rfl T.m__law_count T.F__law_count.kp (b__law_count T) .nil pass0 (pa_cons (pe_ix (ixLK (K := K) rfl) (pv 2) pe_int (fun _ _ => rfl)) pa_nil (star1 rfl)) (by decide) (star1 rfl) (starAll rfl)) (pe_call (ok__law_count T) (hr.mono (by decide)) rfl T.m__law_count T.F__law_count.kp (b__law_count T) .nil pass0 (pa_cons (pe_slice sl_str (pe_ix (ixLK (K := K) rfl) (pv 2) pe_int (fun _ _ => rfl)) (po_some pe_int) po_none) pa_nil (star1 rfl)) (by decide) (star1 rfl) (starAll rfl))))
  (pss_cons (ps_if (PW.pt (pw_and (pt_cmpR op_eq (pe_slice sl_str (pe_ix (ixLK (K := K) rfl) (pv 2) pe_int (fun _ _ => rfl)) po_none (po_some pe_int)) pe_str (nomark _)) (pw_and1 (pt_cmp (pc_notN (pv 4)))))) (pss_one (ps_set (i := 4) sc__law_form.nd rfl (Or.inl rfl) (pe_ifExp (pt_cmpR op_gt (pv 4) pe_int (nomark _)) (pe_op op_sub pe_int (pv 4)) pe_non))) pss_nil)
  (pss_one (ps_ret (pe_ifExp (PW.pt (pw_or (pt_cmp (pc_isN (pv 4))) (pw_or1 (pt_cmp (pc_isN (pe_call (ok__law_count T) (hr.mono (by decide)) rfl T.m__law_count T.F__law_count.kp (b__law_count T) .nil pass0 (pa_cons (pe_ix (ixLK (K := K) rfl) (pv 2) pe_int (fun _ _ => rfl)) pa_nil (star1 rfl)) (by decide) (star1 rfl) (starAll rfl))))))) pe_non (pe_tup (pa_cons (pv 1) (pa_cons (pv 4) (pa_cons (pe_call (ok__law_count T) (hr.mono (by decide)) rfl T.m__law_count T.F__law_count.kp (b__law_count T) .nil pass0 (pa_cons (pe_ix (ixLK (K := K) rfl) (pv 2) pe_int (fun _ _ => rfl)) pa_nil (star1 rfl)) (by decide) (star1 rfl) (starAll rfl)) pa_nil (star1 rfl)) (star1 rfl)) (star1 rfl))))))))) pss_nil)
  (pss_cons (ps_if (PW.pt (pw_or (pt_cmpR op_ne (pe_callB call_len rfl T.z_len PySem.boot_len (pa_cons (pv 2) pa_nil (star1 rfl)) (by decide) (by decide) (star1 rfl) (starAll rfl)) pe_int (nomark _)) (pw_or1 (pt_cmpR (notInSK (K := K) rfl) (pv 1) (pe_tup (pa_cons pe_str (pa_cons pe_str (pa_cons pe_str (pa_cons pe_str pa_nil (star1 rfl)) (star1 rfl)) (star1 rfl)) (star1 rfl))) (by with_unfolding_all rfl))))) (pss_one (ps_ret pe_non)) pss_nil)
  (pss_cons (ps_set (i := 3) sc__law_form.nd rfl (Or.inl rfl) (pe_ifExp (pt_cmpR op_eq (pv 1) pe_str (nomark _)) (pe_call (ok__law_letters T) (hr.mono (by decide)) rfl T.m__law_letters T.F__law_letters.kp (b__law_letters T) .nil pass0 (pa_cons (pe_ix (ixLK (K := K) rfl) (pv 2) pe_int (fun _ _ => rfl)) pa_nil (star1 rfl)) (by decide) (star1 rfl) (starAll rfl)) (pe_call (ok__law_count T) (hr.mono (by decide)) rfl T.m__law_count T.F__law_count.kp (b__law_count T) .nil pass0 (pa_cons (pe_ix (ixLK (K := K) rfl) (pv 2) pe_int (fun _ _ => rfl)) pa_nil (star1 rfl)) (by decide) (star1 rfl) (starAll rfl))))
  (pss_one (ps_ret (pe_ifExp (pt_cmp (pc_isN (pv 3))) pe_non (pe_tup (pa_cons (pv 1) (pa_cons (pv 3) pa_nil (star1 rfl)) (star1 rfl)))))))))))), ?_⟩
  have sz : y.length + 2 ≤ sizeLine := Nat.le_trans (show y.length + 2 ≤ 30002 by omega) (by decide)
  have parts : ∀ x ∈ Txt.split y " ", x.length ≤ 30000 := fun x hx => Nat.le_trans (split_part hx) yl
  refine par2_raw90 ?_
  obtain ⟨a, ar, hws⟩ := rows_pos y
  rw [hws] at q parts
  refine ⟨_, rfl, ⟨y, rfl⟩, y, " ", rfl, rfl, by decide, sz, fun p hp => ?_⟩
  rw [hws]
  refine ⟨p, _, 0, .str a, rfl, rfl, sq_of upd_same, by rw [List.map_cons]; exact atI_nat (j := 0) rfl, ?_⟩
  refine ⟨_, rfl, ⟨y, rfl⟩, y, " ", rfl, rfl, by decide, sz, fun p2 hp2 => ?_⟩
  rw [hws]
  refine ⟨1, rfl, p2, _, rfl, sq_of upd_same, fun p3 hp3 => ⟨_, _, rfl, ?_⟩⟩
  have c1 : cutV ((a :: ar).map V.str) (some 1) none = ar.map V.str := cut_fromA (zs := a :: ar) (i := 1)
  rw [c1]
  have e3 := ((Ex.new (o := .lst ((a :: ar).map V.str)) hp).trans (Ex.new (o := .lst ((a :: ar).map V.str)) hp2)).trans (Ex.new (o := .lst (ar.map V.str)) hp3)
  have h3 : upd (upd (upd H p (.lst ((a :: ar).map V.str))) p2 (.lst ((a :: ar).map V.str))) p3 (.lst (ar.map V.str)) p3 = some (.lst (ar.map V.str)) := upd_same
  show tSeq _ _ _ [some (.str y), some (.str a), some (.ref p3), none, none] _
  generalize upd (upd (upd H p (.lst ((a :: ar).map V.str))) p2 (.lst ((a :: ar).map V.str))) p3 (.lst (ar.map V.str)) = H3 at e3 h3 ⊢
  have fin : ∀ {d : PyData}, formV (parseB (a :: ar)) = d → ∀ u H', Ex H3 H' → Dy K H' u d → Q u H' := fun e u H' e' dy => q u H' (e3.trans e') (by rw [e]; exact dy)
  have emp : ∀ {H'}, Ex H3 H' → ∀ f, Ev (tOp (rEqL0 K f) (tVar 2) (tLst tNil)) [some (.str y), some (.str a), some (.ref p3), none, none] H' (.bl (f (ar.map V.str).isEmpty)) := fun e f => ev_eqL0 (K := K) (f := f) (ev_var (i := 2) rfl) (sq_of (e _ _ h3))
  refine q_ifQ (et_use (et_in90 (K := K) ["try", "let"] (ev_var rfl) (ea_cons ev_c (ea_cons ev_c ea_nil)) (by simp)) fun H4 e4 => ?_)
  by_cases h1 : a ∈ (["try", "let"] : List Str)
  · refine iteT' (decide_eq_true h1) (s_retP (if_raw (et_use (et_test (emp e4 id)) fun H5 e5 => ?_)))
    cases ar with
    | nil =>
      refine iteT' rfl ⟨_, rfl, (by show 1 ≤ sizeLine; decide), fun t ht => ?_⟩
      exact fin (by rw [pf_try h1]; rfl) _ _ ((e4.trans e5).trans (Ex.new ht)) (.tup (st_of upd_same) (.cons (.str _) .nil))
    | cons b r => exact iteF' rfl (fin (by rw [pf_tryN h1]; rfl) _ _ (e4.trans e5) .non)
  refine iteF' (decide_eq_false h1) ?_
  refine q_ifQ (et_use (et_and (et_test (ev_eq (ev_var rfl) (ev_c (v := .str "take")) (sc_str90 _ _))) fun _ => et_test (emp e4 id)) fun H5 e5 => ?_)
  have e45 := e4.trans e5
  by_cases h2 : a = "take" ∧ ar = []
  · obtain ⟨rfl, rfl⟩ := h2
    refine iteT' (by decide) (s_retP ⟨_, rfl, (by show 2 ≤ sizeLine; decide), fun t ht => ?_⟩)
    exact fin (by simp only [parseB]; rw [if_pos trivial]; rfl) _ _ (e45.trans (Ex.new ht)) (.tup (st_of upd_same) (.cons (.str _) (.cons .non .nil)))
  refine iteF' ?_ ?_
  · rw [dec_str]
    by_cases h : a = "take"
    · cases ar with
      | nil => exact absurd ⟨h, rfl⟩ h2
      | cons b r => rw [Bool.and_eq_false_iff]; exact Or.inr rfl
    · rw [decide_eq_false h]
      rfl
  refine q_ifQ (et_use (et_test (ev_eq (ev_var rfl) (ev_c (v := .str "if")) (sc_str90 _ _))) fun H6 e6 => ?_)
  have e46 := e45.trans e6
  by_cases h4 : a = "if"
  · subst h4
    refine iteT' (by decide) ?_
    refine q_ifQ (et_use (et_test (ev_ne (ev_ln90 (K := K) rfl (e46 _ _ h3)) (ev_c (v := .int 2)) rfl)) fun H7 e7 => ?_)
    have e47 := e46.trans e7
    by_cases h5 : ar.length = 2
    case neg =>
      refine iteT' ?_ (s_retP (fin (by rw [pf_if h5]; rfl) _ _ e47 .non))
      rw [List.length_map, decide_eq_false (fun k => h5 (by injection k with k; omega))]
      rfl
    refine iteF' (by rw [List.length_map, h5]; rfl) ?_
    obtain ⟨x, z, rfl⟩ : ∃ x z, ar = [x, z] := by
      match ar, h5 with
      | [x, z], _ => exact ⟨x, z, rfl⟩
    have xl : x.length ≤ 30000 := parts x (by simp)
    have zl : z.length ≤ 30000 := parts z (by simp)
    have tl : (tailS x).cps.size ≤ 40000 := by
      have h : (tailS x).cps.toList = x.cps.toList.drop 1 := cutS_from (i := 1)
      have h9 := congrArg List.length h
      simp only [List.length_drop] at h9
      have : (tailS x).cps.toList.length = (tailS x).cps.size := by simp
      have : x.cps.toList.length = x.length := by simp [Str.length]
      omega
    have wx : ∀ {H' : Hp} {c4 : Option V}, Ex H3 H' → Ev (tOp (rIxL K) (tVar 2) (tC (.int 0))) [some (.str y), some (.str "if"), some (.ref p3), none, c4] H' (.str x) := fun e => ev_wd90 (j := 0) rfl (e _ _ h3) rfl
    have wz : ∀ {H' : Hp} {c4 : Option V}, Ex H3 H' → Ev (tOp (rIxL K) (tVar 2) (tC (.int 1))) [some (.str y), some (.str "if"), some (.ref p3), none, c4] H' (.str z) := fun e => ev_wd90 (j := 1) rfl (e _ _ h3) rfl
    have cz : ∀ {H' : Hp} {c4 : Option V}, Ex H3 H' → Ev (tCall spCnt [] E0 (tCons (tOp (rIxL K) (tVar 2) (tC (.int 1))) tNil)) [some (.str y), some (.str "if"), some (.ref p3), none, c4] H' (cntV z) := fun e => ev_call (sp := spCnt) (E := E0) (ea_cons (wz e) ea_nil) fun H8 e8 Q' q' E' => ⟨z, rfl, Nat.le_trans zl (by decide), q'⟩
    refine q_seqM90 (fun σ' H' => Ex H3 H' ∧ σ' = [some (.str y), some (.str "if"), some (.ref p3), none, some (if Txt.startswith x "-" = true then cntV (tailS x) else cntV x)]) ?t1 fun R hR => ?g1
    case g1 =>
      refine s_asgP (if_raw (et_use (et_test (ev_ne (ev_slTo90 (wx e47) xl) (ev_c (v := .str "-")) (sc_str90 _ _))) fun H8 e8 => ?_))
      rw [dec_str, first_min]
      have e48 := e47.trans e8
      cases c : Txt.startswith x "-" with
      | false => exact iteT' rfl ((ev_call (sp := spCnt) (E := E0) (ea_cons (wx e48) ea_nil) fun H8 e8 Q' q' E' => ⟨x, rfl, Nat.le_trans xl (by decide), q'⟩) H8 (Ex.refl H8) _ fun H9 e9 => hR _ _ ⟨e48.trans e9, by rw [c]; rfl⟩)
      | true => exact iteF' rfl ((ev_call (sp := spCnt) (E := E0) (ea_cons (ev_slFrom90 (wx e48) xl) ea_nil) fun H8 e8 Q' q' E' => ⟨tailS x, rfl, tl, q'⟩) H8 (Ex.refl H8) _ fun H9 e9 => hR _ _ ⟨e48.trans e9, by rw [c]; rfl⟩)
    case t1 =>
      rintro σ' H8 ⟨e8, rfl⟩
      refine q_seqM90 (fun σ' H' => Ex H3 H' ∧ σ' = [some (.str y), some (.str "if"), some (.ref p3), none, some (sgV x)]) ?t2 fun R hR => ?g2
      case g2 =>
        refine s_ifP (et_use (et_and (et_test (ev_eq (ev_slTo90 (wx e8) xl) (ev_c (v := .str "-")) (sc_str90 _ _))) fun _ => et_B (ev_nn90 (ev_var rfl))) fun H9 e9 => ?_)
        rw [dec_str, first_min]
        have e89 := e8.trans e9
        cases c : Txt.startswith x "-" with
        | false => exact iteF' rfl (nx_tn (hR _ _ ⟨e89, by rw [sgV_pos c]; rfl⟩))
        | true =>
          cases hn : numB (tailS x) with
          | false =>
            have cv : cntV (tailS x) = .non := by unfold cntV; rw [hn]; rfl
            refine iteF' (by rw [if_pos rfl, cv]; rfl) (nx_tn (hR _ _ ⟨e89, by rw [sgV_no c hn, if_pos rfl, cv]⟩))
          | true =>
            have cv : cntV (tailS x) = .int (numV (tailS x)) := by unfold cntV; rw [hn]; rfl
            rw [if_pos rfl, cv]
            refine iteT' rfl (s_asgP (if_raw (tst_raw ?_)))
            refine ⟨_, rfl, _, _, rfl, rfl, _, rfl, ?_⟩
            by_cases pz : 0 < numV (tailS x)
            · exact iteT' (decide_eq_true pz) ⟨_, rfl, _, _, rfl, rfl, hR _ _ ⟨e89, by rw [sgV_neg c hn pz]; rfl⟩⟩
            · exact iteF' (decide_eq_false pz) (hR _ _ ⟨e89, by rw [sgV_zero c hn pz]; rfl⟩)
      case t2 =>
        rintro σ' H9 ⟨e9, rfl⟩
        have par : parseB ["if", x, z] = if signB x = true ∧ numB z = true then some (.r [.str "if", .int (numV x), .int (numV z)]) else none := by simp [parseB]
        refine s_retP (if_raw (et_use (et_or (et_B (ev_isN (ev_var rfl))) fun _ => et_B (ev_isN (cz e9))) fun H10 e10 => ?_))
        have e910 := e9.trans e10
        cases hx : signB x with
        | false => exact iteT' (by unfold sgV; rw [hx]; rfl) (fin (by rw [par, hx]; rfl) _ _ e910 .non)
        | true =>
          cases hz : numB z with
          | false => exact iteT' (by unfold sgV cntV; rw [hx, hz]; rfl) (fin (by rw [par, hx, hz]; rfl) _ _ e910 .non)
          | true =>
            refine iteF' (by unfold sgV cntV; rw [hx, hz]; rfl) ?_
            refine ⟨_, rfl, _, rfl, (cz e910) H10 (Ex.refl H10) _ fun H11 e11 => ⟨(by show 3 ≤ sizeLine; decide), fun t ht => ?_⟩⟩
            refine fin (by rw [par, hx, hz]; rfl) _ _ ((e910.trans e11).trans (Ex.new ht)) (.tup (st_of upd_same) (.cons (.str _) (.cons ?_ (.cons ?_ .nil))))
            · unfold sgV
              rw [hx]
              exact .int _
            · unfold cntV
              rw [hz]
              exact .int _
  refine iteF' (by rw [dec_str]; exact decide_eq_false h4) ?_
  refine q_ifQ (et_use (et_or (et_test (ev_ne (ev_ln90 (K := K) rfl (e46 _ _ h3)) (ev_c (v := .int 1)) rfl)) fun _ => et_notin90 (K := K) ["program", "take", "say", "goto"] (ev_var rfl) (ea_cons ev_c (ea_cons ev_c (ea_cons ev_c (ea_cons ev_c ea_nil)))) (by simp)) fun H7 e7 => ?_)
  have e47 := e46.trans e7
  by_cases h5 : ar.length = 1
  case neg =>
    refine iteT' ?_ (s_retP (fin (by rw [pf_one h1 h2 h4 h5]; rfl) _ _ e47 .non))
    rw [List.length_map, decide_eq_false (fun k => h5 (by injection k with k; omega))]
    rfl
  obtain ⟨x, rfl⟩ : ∃ x, ar = [x] := by
    match ar, h5 with
    | [x], _ => exact ⟨x, rfl⟩
  have xl : x.length ≤ 30000 := parts x (by simp)
  have wx : ∀ {H' : Hp} {c3 c4 : Option V}, Ex H3 H' → Ev (tOp (rIxL K) (tVar 2) (tC (.int 0))) [some (.str y), some (.str a), some (.ref p3), c3, c4] H' (.str x) := fun e => ev_wd90 (j := 0) rfl (e _ _ h3) rfl
  by_cases h6 : a ∈ (["program", "take", "say", "goto"] : List Str)
  case neg =>
    refine iteT' ?_ (s_retP (fin (by rw [pf_two h6]; rfl) _ _ e47 .non))
    rw [decide_eq_false h6]
    simp
  refine iteF' (by rw [decide_eq_true h6]; rfl) ?_
  by_cases h7 : a = "program"
  · subst h7
    have par : parseB ["program", x] = if lettS x = true then some (.p x) else none := by
      have d1 : ¬ ("program" : Str) = "take" := by decide
      have d2 : ¬ ("program" : Str) = "say" := by decide
      have d3 : ¬ ("program" : Str) = "goto" := by decide
      simp only [parseB]
      cases lettS x with
      | true => rw [if_pos ⟨trivial, rfl⟩]; rfl
      | false =>
        rw [if_neg (fun k => by cases k.2), if_neg (fun k => d1 k.1), if_neg (fun k => d2 k.1), if_neg (fun k => d3 k.1)]
        rfl
    refine q_asgP (if_raw (et_use (et_test (ev_eq (ev_var rfl) (ev_c (v := .str "program")) (sc_str90 _ _))) fun H8 e8 => iteT' (by decide) ?_))
    have e48 := e47.trans e8
    refine (ev_call (sp := spLet) (E := E0) (ea_cons (wx e48) ea_nil) fun H8 e8 Q' q' E' => ⟨x, rfl, Nat.le_trans xl (by decide), q'⟩) H8 (Ex.refl H8) _ fun H9 e9 => ?_
    have e49 := e48.trans e9
    refine s_retP (if_raw (tB_raw (isN_raw ⟨_, rfl, _, rfl, ?_⟩)))
    cases hx : lettS x with
    | false =>
      have lv : letV x = .non := by unfold letV; rw [hx]; rfl
      exact iteT' (by rw [lv]; rfl) (fin (by rw [par, hx]; rfl) _ _ e49 .non)
    | true =>
      have lv : letV x = .str x := by unfold letV; rw [hx]; rfl
      rw [lv]
      refine iteF' rfl ⟨_, rfl, _, rfl, (by show 2 ≤ sizeLine; decide), fun t ht => ?_⟩
      exact fin (by rw [par, hx]; rfl) _ _ (e49.trans (Ex.new ht)) (.tup (st_of upd_same) (.cons (.str _) (.cons (.str _) .nil)))
  · have h8 : a ∈ (["take", "say", "goto"] : List Str) := by
      rcases List.mem_cons.mp h6 with k | k
      · exact absurd k h7
      · exact k
    have par := pf_num (x := x) h8
    refine q_asgP (if_raw (et_use (et_test (ev_eq (ev_var rfl) (ev_c (v := .str "program")) (sc_str90 _ _))) fun H8 e8 => iteF' (by rw [dec_str]; exact decide_eq_false h7) ?_))
    have e48 := e47.trans e8
    refine (ev_call (sp := spCnt) (E := E0) (ea_cons (wx e48) ea_nil) fun H8 e8 Q' q' E' => ⟨x, rfl, Nat.le_trans xl (by decide), q'⟩) H8 (Ex.refl H8) _ fun H9 e9 => ?_
    have e49 := e48.trans e9
    refine s_retP (if_raw (tB_raw (isN_raw ⟨_, rfl, _, rfl, ?_⟩)))
    cases hx : numB x with
    | false =>
      have lv : cntV x = .non := by unfold cntV; rw [hx]; rfl
      exact iteT' (by rw [lv]; rfl) (fin (by rw [par, hx]; rfl) _ _ e49 .non)
    | true =>
      have lv : cntV x = .int (numV x) := by unfold cntV; rw [hx]; rfl
      rw [lv]
      refine iteF' rfl ⟨_, rfl, _, rfl, (by show 2 ≤ sizeLine; decide), fun t ht => ?_⟩
      exact fin (by rw [par, hx]; rfl) _ _ (e49.trans (Ex.new ht)) (.tup (st_of upd_same) (.cons (.str _) (.cons (.int _) .nil)))
end
/-! ### what is due of a book's text -/
theorem ev_ixT90 {K : PySem.W.Frag} {σ : L2.St} {H : Hp} {i : Nat} {ua : Addr} {us : List V} {w : Str} (hσ : σ[i]? = some (some (.ref ua))) (hT : SqT K H ua us) (h0 : atI us 0 = some (.str w)) : Ev (tOp (rIxT K) (tVar i) (tC (.int 0))) σ H (.str w) := fun H1 e1 Q q =>
  ⟨_, hσ, ua, us, 0, _, rfl, rfl, ex_t e1 hT, h0, q H1 (Ex.refl H1)⟩
theorem rrd_first {K : PySem.W.Frag} {H : Hp} {v : V} {ds : List PyData} (ok : RR ds) (h : Dy K H v (.tuple ds)) : ∃ (ua : Addr) (us : List V) (z : Str), v = .ref ua ∧ SqT K H ua us ∧ atI us 0 = some (.str z) ∧ z ≠ "program" := by
  rcases ok with rfl | rfl | rfl | ⟨i, h1, h2, rfl | rfl | rfl⟩ | ⟨m, i, h1, h2, h3, h4, rfl⟩ <;> (cases h with
    | tup hT hA =>
      cases hA with
      | cons q1 q2 =>
        cases q1
        exact ⟨_, _, _, rfl, hT, atI_nat (j := 0) rfl, by decide⟩)
def spDue90 (K : PySem.W.Frag) : Sp := fun vs H Q _ => ∃ (vp : V) (z : Str) (n : Str) (b : Int) (ms : List Tr) (ys : List Str), vs = [vp, .str z] ∧ TrV H vp (.grp n b ms) ∧ (Tr.grp n b ms).ok ∧ (Tr.grp n b ms).deep ≤ 12 ∧ (Tr.grp n b ms).size < 64 ∧ (Tr.grp n b ms).nms.Nodup ∧ (∀ x ∈ (Tr.grp n b ms).nms, nameOk x) ∧ ys.Perm (handsOf (.grp n b ms)) ∧ PyProof.Rows.sortedS ys = true ∧
  z.length ≤ 30000 ∧ (Txt.split z "\n").length ≤ 140 ∧ ∀ u H', Ex H H' → Dy K H' u (dueB ys (.str z)) → Q u H'
section
variable {P : Program} {w : World} {K : PySem.W.Frag} {mg : Str → Option Value} {base : Heap}
theorem ok__law_due (T : Tp w K mg) : FnOk P w K mg base CX0 16 T.f__law_due T.d__law_due ["_law_plan_here", "_law_text"] (spDue90 K) := by
  refine T.F__law_due.ok sc__law_due (fun vs H Q E h => ?_) (fun cdv A outer s H vs Q E hr h => ?_)
  · obtain ⟨vp, z, n, b, ms, ys, rfl, _⟩ := h
    rfl
  obtain ⟨vp, z, n, b, ms, ys, rfl, tv, tok, tdp, tsz, tnd, tnm, hpm, hsd, zl, rl, q⟩ := h
  refine ⟨_, (pss_cons (ps_set (i := 2) sc__law_due.nd rfl (Or.inl rfl) (pe_lst pa_nil))
  (pss_cons (ps_for PassesOwn.never rfl (pi_enum rfl T.z_enumerate (pa_cons (pe_split (pv 1) pe_str) pa_nil (star1 rfl))) (pg_tup rfl (pgs_cons (pg_name (i := 3) sc__law_due.nd rfl (Or.inl rfl)) (pgs_cons (pg_name (i := 4) sc__law_due.nd rfl (Or.inl rfl)) pgs_nil))) (pss_cons (ps_set (i := 6) sc__law_due.nd rfl (Or.inl rfl) (pe_call (ok__law_form T) (hr.mono (by decide)) rfl T.m__law_form T.F__law_form.kp (b__law_form T) .nil pass0 (pa_cons (pv 4) pa_nil (star1 rfl)) (by decide) (star1 rfl) (starAll rfl)))
  (pss_cons (ps_if (PW.pt (pw_or (pt_cmp (pc_isN (pv 6))) (pw_or1 (PW.pt (pw_and (pt_cmpR (eqL0K (K := K) rfl (hu_e hr)) (pv 2) (pe_lst pa_nil) (nomark _)) (pw_and1 (pt_cmpR op_ne (pe_ix (ixTK (K := K) rfl) (pv 6) pe_int (fun _ _ => rfl)) pe_str (nomark _)))))))) (pss_one (ps_ret (pe_tup (pa_cons pe_str (pa_cons (pv 3) pa_nil (star1 rfl)) (star1 rfl))))) pss_nil)
  (pss_one (ps_if (pt_cmpR op_eq (pe_ix (ixTK (K := K) rfl) (pv 6) pe_int (fun _ _ => rfl)) pe_str (nomark _)) (pss_one (ps_expr (pe_bm PySem.F.plainAttrs_list PySem.F.slot_list_append PySem.F.type_list_append mt_append (pv 2) (pa_cons (pe_tup (pa_cons (pe_ix (ixTK (K := K) rfl) (pv 6) pe_int (fun _ _ => rfl)) (pa_cons (pe_lst pa_nil) pa_nil (star1 rfl)) (star1 rfl))) pa_nil (star1 rfl))))) (pss_one (ps_expr (pe_bm PySem.F.plainAttrs_list PySem.F.slot_list_append PySem.F.type_list_append mt_append (pe_ix (ixTK (K := K) rfl) (pe_ix (ixLK (K := K) rfl) (pv 2) (pe_un un_neg pe_int) (fun _ _ => rfl)) pe_int (fun _ _ => rfl)) (pa_cons (pv 6) pa_nil (star1 rfl))))))))))
  (pss_cons (ps_set (i := 5) sc__law_due.nd rfl (Or.inl rfl) (pe_callTy (call_tupF (K := K) rfl) rfl T.z_tuple (by decide +kernel) (pa_cons (pe_lc (own := [("_law_name", 7), ("_law_rows", 8)]) (g := gTup K 2 (gCons (gName 7) (gCons (gName 8) gNil))) (tt := tYes) rfl sc__law_due.nd (plLK (K := K) rfl (pv 2)) (blkOk_by (N := N__law_due) (sc := defScope s__law_due) (by decide +kernel)) (fun _ _ _ _ _ => (pg_tup rfl (pgs_cons (pg_name (i := 7) sc__law_due.nd rfl (Or.inl rfl)) (pgs_cons (pg_name (i := 8) sc__law_due.nd rfl (Or.inl rfl)) pgs_nil)))) (fun _ _ _ _ _ => pts_nil) (fun _ _ _ _ _ => (pe_tup (pa_cons (pv 7) (pa_cons (pe_callTy (call_tupF (K := K) rfl) rfl T.z_tuple (by decide +kernel) (pa_cons (pv 8) pa_nil (star1 rfl)) (by decide) (by decide) (star1 rfl) (starAll rfl)) pa_nil (star1 rfl)) (star1 rfl))))) pa_nil (star1 rfl)) (by decide) (by decide) (star1 rfl) (starAll rfl)))
  (pss_one (ps_ret (pe_ifExp (pt_val (pe_call (ok_is_book T) (hr.mono (by decide)) rfl T.m_is_book T.F_is_book.kp (b_is_book T) .nil pass0 (pa_cons (pv 0) (pa_cons (pv 5) pa_nil (star1 rfl)) (star1 rfl)) (by decide) (star1 rfl) (starAll rfl))) (pv 5) pe_str)))))), ?_⟩
  have q1 : ∀ i, outBZ z = .inl i → ∀ u H', Ex H H' → Dy K H' u (.tuple [.str "text", .int (i : Nat)]) → Q u H' := fun i hi u H' e dy => q u H' e (by rw [dueB_l hi]; exact dy)
  have q2 : ∀ bk, outBZ z = .inr bk → bookB ys (bookD bk) = false → ∀ H', Ex H H' → Q (.str "book") H' := fun bk hi hb H' e => q _ H' e (by rw [dueB_n hi hb]; exact .str _)
  have q3 : ∀ bk, outBZ z = .inr bk → bookB ys (bookD bk) = true → ∀ u H', Ex H H' → Dy K H' u (bookD bk) → Q u H' := fun bk hi hb u H' e dy => q u H' e (by rw [dueB_p hi hb]; exact dy)
  clear q
  refine q_asgP ?_
  refine ⟨(by show 0 ≤ sizeLine; decide), fun g hg => ?_⟩
  have e1 := Ex.new (o := .lst []) hg
  have hg1 : upd H g (.lst []) g = some (.lst []) := upd_same
  have g0 : H g = none := hg
  generalize upd H g (.lst []) = H1 at e1 hg1 ⊢
  refine q_forU ?_
  refine ⟨_, rfl, ⟨z, rfl⟩, z, "\n", rfl, rfl, by decide, Nat.le_trans (show z.length + 2 ≤ 30002 by omega) (by decide), fun r hr0 => ?_⟩
  have rows : ∀ x ∈ Txt.split z "\n", x.length ≤ 30000 := fun x hx => Nat.le_trans (split_part hx) zl
  have whole : outB ((Txt.split z "\n").drop 0) 0 [] = outBZ z := rfl
  have okz : ∀ t, outBZ z = .inr t → rdPs t ∧ cntB t ≤ 140 := fun t h => ⟨outB_rd _ _ _ _ (fun x hx => by simp at hx) h, by
    have := outB_cnt _ _ _ _ h
    simp only [cntB] at this
    omega⟩
  generalize outBZ z = OUT at q1 q2 q3 whole okz
  generalize Txt.split z "\n" = ws at rl rows whole
  have e2 := Ex.new (o := .lst (ws.map V.str)) hr0
  have hr2 : upd H1 r (.lst (ws.map V.str)) r = some (.lst (ws.map V.str)) := upd_same
  generalize upd H1 r (.lst (ws.map V.str)) = H2 at e2 hr2 ⊢
  have hg2 := e2 _ _ hg1
  have r0 := hr0
  have rg : r ≠ g := fun z => by rw [← z] at hg1; rw [hg1] at r0; cases r0
  have e12 := e1.trans e2
  refine ⟨r, _, rfl, sq_of hr2, ?_⟩
  refine enum_turns (K := K) (a := r) (xs := ws.map V.str) (fun i σ' H' => ∃ (xs : List V) (s : List Pg) (as : List Addr) (c3 c4 c5 c6 c7 c8 : Option V), σ' = [some vp, some (.str z), some (.ref g), c3, c4, c5, c6, c7, c8] ∧ (∀ c oc, H c = some oc → H' c = some oc) ∧ H' r = some (.lst (ws.map V.str)) ∧ H' g = some (.lst xs) ∧ PgsV K H' xs s as ∧ g ∉ as ∧ as.Nodup ∧ r ∉ as ∧ (∀ m ∈ as, H m = none) ∧ xs.length ≤ i ∧ (∀ f ∈ s, f.2.length ≤ i) ∧ outB (ws.drop i) i s = OUT) ?_ (fun i σ' H' _ hP => ?_) ?_ ?_
  · exact ⟨[], [], [], _, _, _, _, _, _, rfl, fun c oc z => e12 _ _ z, hr2, hg2, .nil, by simp, List.nodup_nil, by simp, fun m hm => by simp at hm, Nat.zero_le _, fun f hf => by simp at hf, whole⟩
  · obtain ⟨xs, s, as, c3, c4, c5, c6, c7, c8, _, _, hl, _⟩ := hP
    exact sq_of hl
  · rintro i x Tn σ' H3 hx ⟨xs, s, as, c3, c4, c5, c6, c7, c8, rfl, fr, hr3, hg3, hs, na, nd, nr, new, bl, bf, hrun⟩ hT
    rw [List.getElem?_map] at hx
    obtain ⟨y, hwi, rfl⟩ : ∃ y, ws[i]? = some y ∧ x = .str y := by
      cases hz : ws[i]? with
      | none => rw [hz] at hx; cases hx
      | some y => rw [hz] at hx; cases hx; exact ⟨y, rfl, rfl⟩
    have il : i < ws.length := (List.getElem?_eq_some_iff.mp hwi).1
    have hd : ws.drop i = y :: ws.drop (i + 1) := by rw [List.drop_eq_getElem_cons il, (List.getElem?_eq_some_iff.mp hwi).2]
    rw [hd] at hrun
    unfold outB at hrun
    have yl := rows y (List.mem_of_getElem? hwi)
    have e4 := Ex.new (o := .tup [.int (i : Int), .str y]) hT
    refine ⟨Tn, _, rfl, st_of upd_same, rfl, _, _, rfl, _, _, rfl, rfl, ?_⟩
    refine q_asgP ?_
    refine ⟨_, rfl, y, rfl, yl, fun u H4 e5 dyw => ?_⟩
    have e34 := e4.trans e5
    have hs4 := hs.ex e34
    have hg4 := e34 _ _ hg3
    have hr4 := e34 _ _ hr3
    have back : ∀ m, H4 m = none → H m = none := fun m z => by
      cases y : H m with
      | none => rfl
      | some oc => rw [e34 _ _ (fr _ _ y)] at z; cases z
    have fr4 : ∀ c oc, H c = some oc → H4 c = some oc := fun c oc z => e34 _ _ (fr _ _ z)
    have xl : xs.length ≤ 2700 := by omega
    have emp : ∀ {H'} {σ : L2.St}, Ex H4 H' → σ[2]? = some (some (.ref g)) → Ev (tOp (rEqL0 K id) (tVar 2) (tLst tNil)) σ H' (.bl xs.isEmpty) := fun e hσ => ev_eqL0 (K := K) (f := id) (ev_var (i := 2) hσ) (sq_of (e _ _ hg4))
    cases hp : parseB (Txt.split y " ") with
    | none =>
      rw [hp] at hrun dyw
      cases dyw
      refine q_ifQ (or_raw (tB_raw (isN_raw ⟨_, rfl, _, rfl, iteT' rfl (iteT' rfl ?_)⟩)))
      exact s_retP ⟨_, rfl, (by show 2 ≤ sizeLine; decide), fun t ht => q1 i hrun.symm _ _ (fun c oc z => (Ex.new ht) _ _ (fr4 c oc z)) (.tup (st_of upd_same) (.cons (.str _) (.cons (.int _) .nil)))⟩
    | some w =>
    rw [hp] at hrun dyw
    simp only at hrun
    have pr := parseB_rd hp
    cases w with
    | p n =>
      have dyw : Dy K H4 u (.tuple [.str "program", .str n]) := dyw
      rw [if_neg (by simp [isR])] at hrun
      have hrun2 := hrun
      cases dyw with
      | tup hT2 hA =>
      cases hA with
      | cons q1' q2' =>
      cases q2' with
      | cons q2' q3' =>
      cases q1'
      cases q2'
      cases q3'
      rename_i ua
      have hw0 : ∀ {H'}, Ex H4 H' → SqT K H' ua [.str "program", .str n] := fun e => ex_t e hT2
      refine q_when (b := false) (et_is (et_or (a := false) (b := false) (et_B (ev_is (ev_isN (ev_var rfl)) rfl)) fun _ => et_is (et_and (et_test (emp (Ex.refl _) rfl)) fun _ => et_test (ev_is (ev_ne (ev_ixT90 (K := K) (i := 6) rfl (hw0 (Ex.refl _)) rfl) (ev_c (v := .str "program")) (sc_str90 _ _)) (by rw [decide_eq_true rfl]; rfl))) (Bool.and_false _)) rfl) (fun hb => by cases hb) (fun _ H5 e6 => ?_)
      refine s_ifP (tst_raw ⟨_, rfl, ua, _, 0, _, rfl, rfl, hw0 e6, rfl, rfl, _, rfl, iteT' rfl ?_⟩)
      have hg5 := e6 _ _ hg4
      refine ⟨_, rfl, Or.inl ⟨rfl, _, sq_of hg5⟩, _, rfl, ua, _, 1, _, rfl, rfl, hw0 e6, rfl, (by show 0 ≤ sizeLine; decide), fun l hl => ⟨(by show 2 ≤ sizeLine; decide), fun t ht => ?_⟩⟩
      have d1 := Ex.new (o := .lst []) hl
      have d2 := Ex.new (o := .tup [.str n, .ref l]) ht
      have hl2 := d2 _ _ (upd_same (H := H5) (a := l) (o := .lst []))
      have ht2 : upd (upd H5 l (.lst [])) t (.tup [.str n, .ref l]) t = some (.tup [.str n, .ref l]) := upd_same
      have d12 := e6.trans (d1.trans d2)
      have l4 : H4 l = none := fresh_back e6 hl
      generalize upd (upd H5 l (.lst [])) t (.tup [.str n, .ref l]) = H6 at d12 hl2 ht2 ⊢
      have hg6 := d12 _ _ hg4
      have lng : l ≠ g := fun z => by rw [z, hg4] at l4; cases l4
      have lno : l ∉ as := fun z => by
        obtain ⟨vs, y⟩ := hs4.old l z
        rw [y] at l4
        cases l4
      refine ⟨g, xs, .ref t, rfl, rfl, hg6, sz_lt (by omega), ?_⟩
      have t7 : ST K H6 (upd H6 g (.lst (xs ++ [.ref t]))) := ST.lst hg6
      have k7 : TK H6 (upd H6 g (.lst (xs ++ [.ref t]))) := TK.lst hg6
      refine ⟨xs ++ [.ref t], (n, []) :: s, l :: as, _, _, _, _, _, _, rfl, fun c oc z => ?_, ?_, upd_same, ?_, fun z => ?_, List.nodup_cons.mpr ⟨lno, nd⟩, fun z => ?_, fun m hm => ?_, ?_, ?_, hrun2⟩
      · rw [upd_ne (fun y => by rw [y, g0] at z; cases z)]
        exact d12 _ _ (fr4 c oc z)
      · rw [upd_ne rg]
        exact d12 _ _ hr4
      · exact .snoc ⟨t, [], rfl, k7 _ _ ht2, by rw [upd_ne lng]; exact hl2, .nil, rfl⟩ (PgsV.put hg6 na (hs4.ex d12))
      · rcases List.mem_cons.mp z with z | z
        · exact lng z.symm
        · exact na z
      · rcases List.mem_cons.mp z with z | z
        · rw [← z, hr4] at l4
          cases l4
        · exact nr z
      · rcases List.mem_cons.mp hm with rfl | hm
        · exact back _ l4
        · exact new m hm
      · rw [List.length_append, List.length_singleton]
        omega
      · intro f hf
        rcases List.mem_cons.mp hf with rfl | hf
        · exact Nat.zero_le _
        · have := bf f hf
          omega
    | r ds =>
      have ok : RR ds := pr
      have dyw : Dy K H4 u (.tuple ds) := dyw
      obtain ⟨ua, us, z', rfl, hu, hu0, nz⟩ := rrd_first ok dyw
      cases s with
      | nil =>
        rw [if_pos (by rfl)] at hrun
        have x0 : xs = [] := List.length_eq_zero_iff.mp (by rw [hs4.len]; rfl)
        subst x0
        refine q_when (b := true) (et_is (et_or (a := false) (b := true) (et_B (ev_is (ev_isN (ev_var rfl)) rfl)) fun _ => et_is (et_and (et_test (emp (Ex.refl _) rfl)) fun _ => et_test (ev_is (ev_ne (ev_ixT90 (K := K) (i := 6) rfl hu hu0) (ev_c (v := .str "program")) (sc_str90 _ _)) (by rw [dec_str, decide_eq_false nz]; rfl))) rfl) rfl) (fun _ H5 e6 => ?_) (fun hb => by cases hb)
        exact s_retP ⟨_, rfl, (by show 2 ≤ sizeLine; decide), fun t ht => q1 i hrun.symm _ _ (fun c oc z => (Ex.new ht) _ _ (e6 _ _ (fr4 c oc z))) (.tup (st_of upd_same) (.cons (.str _) (.cons (.int _) .nil)))⟩
      | cons f s =>
      rw [if_neg (by simp)] at hrun
      have hrun2 := hrun
      cases hs4 with
      | snoc hf hr' =>
      rename_i us' u' as' m
      obtain ⟨tp, vs, rfl, h1, h2, h3, h4⟩ := hf
      have nem : (us' ++ [V.ref tp]).isEmpty = false := by cases us' <;> rfl
      refine q_when (b := false) (et_is (et_or (a := false) (b := false) (et_B (ev_is (ev_isN (ev_var rfl)) rfl)) fun _ => et_is (et_and (a := false) (b := false) (et_test (ev_is (emp (Ex.refl _) rfl) (by rw [nem]))) fun k => by cases k) rfl) rfl) (fun hb => by cases hb) (fun _ H5 e6 => ?_)
      refine s_ifP (tst_raw ⟨_, rfl, ua, _, 0, _, rfl, rfl, ex_t e6 hu, hu0, rfl, _, rfl, iteF' (decide_eq_false fun y => nz (by injection y)) ?_⟩)
      have hm6 := e6 _ _ h2
      have vl : vs.length ≤ 2700 := by
        have := dya_len h3
        rw [List.length_map] at this
        have := bf f (by simp)
        omega
      refine ⟨_, rfl, 1, rfl, g, _, -1, .ref tp, rfl, rfl, sq_of (e6 _ _ hg4), at_last _ _, tp, _, 1, .ref m, rfl, rfl, st_of (e6 _ _ h1), rfl, Or.inl ⟨rfl, _, sq_of hm6⟩, _, rfl, m, vs, _, rfl, rfl, hm6, sz_lt (by omega), ?_⟩
      have dy2 := dy_mono e6 dyw
      have t7 : ST K H5 (upd H5 m (.lst (vs ++ [.ref ua]))) := ST.lst hm6
      have k7 : TK H5 (upd H5 m (.lst (vs ++ [.ref ua]))) := TK.lst hm6
      have gm : g ≠ m := fun y => na (by rw [y]; simp)
      have rm : r ≠ m := fun y => nr (by rw [y]; simp)
      obtain ⟨n1, n2⟩ := List.nodup_cons.mp nd
      obtain ⟨fn, fd⟩ := f
      refine ⟨us' ++ [.ref tp], (fn, fd ++ [ds]) :: s, m :: as', _, _, _, _, _, _, rfl, fun c oc z => ?_, ?_, ?_, ?_, na, nd, nr, new, by omega, ?_, hrun2⟩
      · rw [upd_ne (fun y => by rw [y, new m (by simp)] at z; cases z)]
        exact e6 _ _ (fr4 c oc z)
      · rw [upd_ne rm]
        exact e6 _ _ hr4
      · rw [upd_ne gm]
        exact e6 _ _ hg4
      · refine .snoc ⟨tp, vs ++ [.ref ua], rfl, k7 _ _ (e6 _ _ h1), upd_same, ?_, ?_⟩ ((hr'.ex e6).mono t7 k7 fun q hq => upd_ne fun y => n1 (by rw [← y]; exact hq))
        · rw [List.map_append]
          exact dya_app (dya_st t7 _ _ h4 (dya_mono e6 h3)) (.cons (dy_st t7 _ _ (rr_to ok) dy2) .nil)
        · rw [List.map_append]
          refine tos_mem fun d hd => ?_
          rcases List.mem_append.mp hd with hd | hd
          · exact tos_at h4 hd
          · rw [List.mem_singleton.mp hd]
            exact rr_to ok
      · intro p hp
        rcases List.mem_cons.mp hp with rfl | hp
        · have := bf (fn, fd) (by simp)
          show (fd ++ [ds]).length ≤ i + 1
          rw [List.length_append, List.length_singleton]
          have : fd.length ≤ i := this
          omega
        · have := bf p (by simp [hp])
          omega
  · rintro σ' H3 ⟨xs, s, as, c3, c4, c5, c6, c7, c8, rfl, fr, hr3, hg3, hs, na, nd, nr, new, bl, bf, hrun⟩
    rw [List.drop_of_length_le (by rw [List.length_map]; exact Nat.le_refl _)] at hrun
    have hO : OUT = .inr s.reverse := hrun.symm
    obtain ⟨bok, bcn⟩ := okz _ hO
    have bln := cnt_len s.reverse
    generalize hbk : s.reverse = bk at hO bok bcn bln
    have tv3 := trv_tk (TK.ex (fun c oc z => fr c oc z : Ex H H3)) _ _ tv
    refine q_asgP ?_
    refine DE.ofL (dl_bookR bok (by omega) hg3 hs hbk) H3 _ (Ex.refl H3) fun u H5 e5 dyu => ?_
    have dyu : Dy K H5 u (bookD bk) := dyu
    obtain ⟨w2, w4⟩ := pgsR_nodes bok
    refine s_retP (if_raw (tB_raw ?_))
    refine ⟨_, rfl, _, rfl, vp, u, n, b, ms, bookD bk, 2 ^ 40, rfl, trv_tk (TK.ex e5) _ _ tv3, tdp, tsz, tnm, dy_dx dyu, ?_, w4, fun ys' H7 hp' hs' e7 => ⟨_, rfl, ?_⟩⟩
    · show nodes (.tuple (bk.map pD)) ≤ 20000
      simp only [nodes]
      omega
    · rw [sorted_unique hs' hsd (hp'.trans hpm.symm)]
      cases hb : bookB ys (bookD bk) with
      | true => exact iteT' rfl ⟨_, rfl, q3 bk hO hb u H7 (fun c oc z => e7 _ _ (e5 _ _ (fr c oc z))) (dy_mono e7 dyu)⟩
      | false => exact iteF' rfl (q2 bk hO hb H7 (fun c oc z => e7 _ _ (e5 _ _ (fr c oc z))))
end
/-! ### figures; the law -/
structure WOk (x : Str) : Prop where
  nb : numB x = false
  n10 : 10 ∉ TL.tl x
  n32 : 32 ∉ TL.tl x
  ln : x.length ≤ 5000
  sb : signB x = false
theorem mul_tl (c : Nat) (n : Int) : TL.tl (Txt.mul ⟨#[c]⟩ n) = List.replicate n.toNat c := PyProof.Rows.mul_one_list c n
theorem mul_len (c : Nat) (n : Int) : (Txt.mul ⟨#[c]⟩ n).length = n.toNat := by rw [TL.len_tl, mul_tl, List.length_replicate]
theorem nb_long {x : Str} (h : 10 ≤ x.length) : numB x = false := by
  unfold numB
  rw [if_pos (fun k => by omega)]
theorem tail_len (x : Str) : (tailS x).length = x.length - 1 := by
  have h : (tailS x).cps.toList = x.cps.toList.drop 1 := cutS_from (i := 1)
  have h9 := congrArg List.length h
  simp only [List.length_drop] at h9
  have e1 : (tailS x).cps.toList.length = (tailS x).length := by simp [Str.length]
  have e2 : x.cps.toList.length = x.length := by simp [Str.length]
  omega
theorem sb_long {x : Str} (h : 11 ≤ x.length) : signB x = false := by
  unfold signB
  rw [nb_long (x := x) (by omega), nb_long (x := tailS x) (by rw [tail_len]; omega), Bool.and_false]
  split <;> rfl
theorem mul_ok {c : Nat} {n : Int} (h1 : c ≠ 10) (h2 : c ≠ 32) (h3 : 11 ≤ n) (h4 : n ≤ 4950) : WOk (Txt.mul ⟨#[c]⟩ n) := by
  refine ⟨nb_long (by rw [mul_len]; omega), fun h => ?_, fun h => ?_, by rw [mul_len]; omega, sb_long (by rw [mul_len]; omega)⟩
  · rw [mul_tl] at h
    exact h1 (List.eq_of_mem_replicate h).symm
  · rw [mul_tl] at h
    exact h2 (List.eq_of_mem_replicate h).symm
theorem pre_ok {p x : Str} (hx : WOk x) (h1 : 10 ∉ TL.tl p) (h2 : 32 ∉ TL.tl p) (h3 : 11 ≤ x.length) (h4 : x.length + p.length ≤ 5000) : WOk (p ++ x) := by
  refine ⟨nb_long (by rw [len_app]; omega), fun h => ?_, fun h => ?_, by rw [len_app]; omega, sb_long (by rw [len_app]; omega)⟩
  · rw [TL.tl_append] at h
    rcases List.mem_append.mp h with h | h
    · exact h1 h
    · exact hx.n10 h
  · rw [TL.tl_append] at h
    rcases List.mem_append.mp h with h | h
    · exact h2 h
    · exact hx.n32 h
theorem fix_ok {x : Str} (h1 : numB x = false) (h2 : 10 ∉ TL.tl x) (h3 : 32 ∉ TL.tl x) (h4 : x.length ≤ 10) (h5 : signB x = false) : WOk x := ⟨h1, h2, h3, by omega, h5⟩
theorem ten_ok : WOk (Txt.mul ⟨#[49]⟩ 10) := ⟨by decide +kernel, by decide +kernel, by decide +kernel, by decide +kernel, by decide +kernel⟩
def figPs : List (Str × Str) := [("take ", ""), ("say ", ""), ("goto ", ""), ("if ", " 0"), ("if 0 ", "")]
def figL (p : Str × Str) (x : Str) : Str := p.1 ++ x ++ p.2
def figT (p : Str × Str) (x : Str) : Str := "program b\nlet\n" ++ p.1 ++ x ++ p.2
theorem figL_n {p : Str × Str} (hp : p ∈ figPs) {x : Str} (h : WOk x) : 10 ∉ TL.tl (figL p x) := by
  unfold figL
  rw [TL.tl_append, TL.tl_append]
  simp only [figPs, List.mem_cons, List.not_mem_nil, or_false] at hp
  intro k
  rcases List.mem_append.mp k with k | k
  · rcases List.mem_append.mp k with k | k
    · rcases hp with rfl | rfl | rfl | rfl | rfl <;> exact absurd k (by decide +kernel)
    · exact h.n10 k
  · rcases hp with rfl | rfl | rfl | rfl | rfl <;> exact absurd k (by decide +kernel)
theorem figT_rows {p : Str × Str} (hp : p ∈ figPs) {x : Str} (h : WOk x) : Txt.split (figT p x) "\n" = (["program b", "let", figL p x] : List Str) := by
  have e : figT p x = Txt.join "\n" (["program b", "let", figL p x] : List Str) := by
    rw [TL.join_eq]
    refine TL.ext_tl ?_
    show TL.tl ("program b\nlet\n" ++ p.1 ++ x ++ p.2) = TL.tl ("program b" ++ "\n" ++ ("let" ++ "\n" ++ (p.1 ++ x ++ p.2)))
    simp only [TL.tl_append]
    rw [show TL.tl "program b\nlet\n" = TL.tl "program b" ++ TL.tl "\n" ++ (TL.tl "let" ++ TL.tl "\n") from by decide +kernel]
    simp only [List.append_assoc]
  rw [e]
  refine TL.split_join (s := 10) (S := []) (by decide +kernel) (by decide +kernel) (by simp) fun q hq => ?_
  simp only [List.mem_cons, List.not_mem_nil, or_false] at hq
  rcases hq with rfl | rfl | rfl
  · decide +kernel
  · decide +kernel
  · exact figL_n hp h
theorem fig_two {a x : Str} (h : WOk x) (ha : 32 ∉ TL.tl a) : Txt.split (a ++ " " ++ x) " " = ([a, x] : List Str) := by
  have e : (a ++ " " ++ x : Str) = Txt.join " " ([a, x] : List Str) := by
    rw [TL.join_eq]
    rfl
  rw [e]
  refine TL.split_join (s := 32) (S := []) (by decide +kernel) (by decide +kernel) (by simp) fun p hp => ?_
  simp only [List.mem_cons, List.not_mem_nil, or_false] at hp
  rcases hp with rfl | rfl
  · exact ha
  · exact h.n32
theorem fig_three {a x y : Str} (ha : 32 ∉ TL.tl a) (hx : 32 ∉ TL.tl x) (hy : 32 ∉ TL.tl y) : Txt.split (a ++ " " ++ (x ++ " " ++ y)) " " = ([a, x, y] : List Str) := by
  have e : (a ++ " " ++ (x ++ " " ++ y) : Str) = Txt.join " " ([a, x, y] : List Str) := by
    rw [TL.join_eq]
    rfl
  rw [e]
  refine TL.split_join (s := 32) (S := []) (by decide +kernel) (by decide +kernel) (by simp) fun p hp => ?_
  simp only [List.mem_cons, List.not_mem_nil, or_false] at hp
  rcases hp with rfl | rfl | rfl
  · exact ha
  · exact hx
  · exact hy
theorem app_nil (x : Str) : x ++ ("" : Str) = x := TL.ext_tl (by rw [TL.tl_append, show TL.tl "" = [] from by decide +kernel, List.append_nil])
theorem fig_no {p : Str × Str} (hp : p ∈ figPs) {x : Str} (h : WOk x) : parseB (Txt.split (figL p x) " ") = none := by
  simp only [figPs, List.mem_cons, List.not_mem_nil, or_false] at hp
  have one : ∀ a : Str, a ∈ (["take", "say", "goto"] : List Str) → 32 ∉ TL.tl a → parseB (Txt.split (a ++ " " ++ x) " ") = none := fun a ha h32 => by
    rw [fig_two h h32, pf_num ha, h.nb]
    rfl
  have par : ∀ x z : Str, parseB ["if", x, z] = if signB x = true ∧ numB z = true then some (.r [.str "if", .int (numV x), .int (numV z)]) else none := fun x z => by simp [parseB]
  rcases hp with rfl | rfl | rfl | rfl | rfl
  · rw [show figL ("take ", "") x = ("take" ++ " " ++ x : Str) from by unfold figL; rw [app_nil]; rfl]
    exact one "take" (by simp) (by decide +kernel)
  · rw [show figL ("say ", "") x = ("say" ++ " " ++ x : Str) from by unfold figL; rw [app_nil]; rfl]
    exact one "say" (by simp) (by decide +kernel)
  · rw [show figL ("goto ", "") x = ("goto" ++ " " ++ x : Str) from by unfold figL; rw [app_nil]; rfl]
    exact one "goto" (by simp) (by decide +kernel)
  · rw [show figL ("if ", " 0") x = ("if" ++ " " ++ (x ++ " " ++ "0") : Str) from TL.ext_tl (by
      unfold figL
      simp only [TL.tl_append]
      rw [show TL.tl "if " = TL.tl "if" ++ TL.tl " " from by decide +kernel, show TL.tl " 0" = TL.tl " " ++ TL.tl "0" from by decide +kernel]
      simp only [List.append_assoc])]
    rw [fig_three (by decide +kernel) h.n32 (by decide +kernel), par, h.sb]
    rfl
  · rw [show figL ("if 0 ", "") x = ("if" ++ " " ++ ("0" ++ " " ++ x) : Str) from TL.ext_tl (by
      unfold figL
      rw [app_nil]
      simp only [TL.tl_append]
      rw [show TL.tl "if 0 " = TL.tl "if" ++ TL.tl " " ++ (TL.tl "0" ++ TL.tl " ") from by decide +kernel]
      simp only [List.append_assoc])]
    rw [fig_three (by decide +kernel) (by decide +kernel) h.n32, par, h.nb]
    simp
theorem fig_out {p : Str × Str} (hp : p ∈ figPs) {x : Str} (h : WOk x) : outBZ (figT p x) = .inl 2 := by
  unfold outBZ
  rw [figT_rows hp h]
  unfold outB
  rw [show Txt.split "program b" " " = (["program", "b"] : List Str) from by decide +kernel]
  have p1 : parseB ["program", "b"] = some (.p "b") := by
    simp only [parseB]
    rw [if_pos (by decide +kernel)]
  rw [p1]
  simp only
  rw [if_neg (by simp [isR])]
  unfold outB
  rw [show Txt.split "let" " " = (["let"] : List Str) from by decide +kernel]
  rw [pf_try (a := "let") (by simp)]
  simp only
  rw [if_neg (by simp [stepB])]
  unfold outB
  rw [fig_no hp h]
theorem fig_ln {p : Str × Str} (hp : p ∈ figPs) : p.1.length ≤ 6 ∧ p.2.length ≤ 6 := by
  revert p
  decide +kernel
theorem fig_len {p : Str × Str} (hp : p ∈ figPs) {x : Str} (h : WOk x) : (figT p x).length ≤ 6000 := by
  have := h.ln
  have e1 : ("program b\nlet\n" : Str).length = 14 := by decide +kernel
  obtain ⟨g1, g2⟩ := fig_ln hp
  unfold figT
  rw [len_app, len_app, len_app, e1]
  omega
def t2S : Str := "program b\ntake 999999999\nif -999999999 1"
theorem t2_out : outBZ t2S = .inr [("b", [[.str "take", .int 999999999], [.str "if", .int (-999999999), .int 1]])] := by kernel_rfl
def greatD : PyData := .tuple [.tuple [.str "b", .tuple [.tuple [.str "take", .int 999999999], .tuple [.str "if", .int (-999999999), .int 1]]]]
theorem t2_due : dueB ["b"] (.str t2S) = greatD := by
  rw [dueB_p t2_out (by decide +kernel)]
  rfl
theorem t3_due : dueB ["b"] (.str "program b\ngoto 1") = .str "book" := dueB_n (t := [("b", [[.str "goto", .int 1]])]) (by kernel_rfl) (by decide +kernel)
theorem t4_due : dueB ["b"] (.str "program b\nsay 100") = .str "book" := dueB_n (t := [("b", [[.str "say", .int 100]])]) (by kernel_rfl) (by decide +kernel)
def figW (n : Int) : List Str := [Txt.mul ⟨#[56]⟩ n, Txt.mul ⟨#[48]⟩ n, "1" ++ Txt.mul ⟨#[48]⟩ n, "-" ++ Txt.mul ⟨#[51]⟩ n, Txt.mul ⟨#[49]⟩ 10, "00", "01", "-0", "1.0", ""]
theorem figW_ok {n : Int} (h1 : 4301 ≤ n) (h2 : n ≤ 4901) : ∀ x ∈ figW n, WOk x := fun x hx => by
  have l1 : ∀ c, (Txt.mul ⟨#[c]⟩ n).length = n.toNat := fun c => mul_len c n
  have e1 : ("1" : Str).length = 1 := by decide +kernel
  have e2 : ("-" : Str).length = 1 := by decide +kernel
  simp only [figW, List.mem_cons, List.not_mem_nil, or_false] at hx
  rcases hx with rfl | rfl | rfl | rfl | rfl | rfl | rfl | rfl | rfl | rfl
  · exact mul_ok (by decide) (by decide) (by omega) (by omega)
  · exact mul_ok (by decide) (by decide) (by omega) (by omega)
  · exact pre_ok (mul_ok (by decide) (by decide) (by omega) (by omega)) (by decide +kernel) (by decide +kernel) (by rw [l1]; omega) (by rw [l1, e1]; omega)
  · exact pre_ok (mul_ok (by decide) (by decide) (by omega) (by omega)) (by decide +kernel) (by decide +kernel) (by rw [l1]; omega) (by rw [l1, e2]; omega)
  · exact ten_ok
  all_goals exact fix_ok (by decide +kernel) (by decide +kernel) (by decide +kernel) (by decide +kernel) (by decide +kernel)
theorem one_ok : (Tr.grp "a" 1 [.hand "b"]).ok ∧ (Tr.grp "a" 1 [.hand "b"]).deep ≤ 12 ∧ (Tr.grp "a" 1 [.hand "b"]).size < 64 ∧ (Tr.grp "a" 1 [.hand "b"]).nms.Nodup ∧ (∀ x ∈ (Tr.grp "a" 1 [.hand "b"]).nms, nameOk x) ∧ (["b"] : List Str).Perm (handsOf (.grp "a" 1 [.hand "b"])) ∧ PyProof.Rows.sortedS ["b"] = true := by
  refine ⟨⟨by decide, by decide, by simp, trivial, trivial⟩, by decide, by decide, by decide, fun x hx => ?_, by rw [show handsOf (.grp "a" 1 [.hand "b"]) = (["b"] : List Str) from rfl], by decide⟩
  simp only [Tr.nms, nmss, List.mem_cons, List.append_nil, List.not_mem_nil, or_false] at hx
  rcases hx with rfl | rfl <;> (unfold nameOk; decide +kernel)
def spFig : Sp := fun vs H Q _ => ∃ h l : Addr, vs = [.ref h] ∧ Hand H h l ∧ ∀ H', Q (.bl true) H'
section
variable {P : Program} {w : World} {K : PySem.W.Frag} {mg : Str → Option Value} {base : Heap}
theorem ok__law_figures_right (T : Tp w K mg) : FnOk P w K mg base CX0 18 T.f__law_figures_right T.d__law_figures_right ["_law_hand_here"] spFig := by
  refine T.F__law_figures_right.ok sc__law_figures_right (fun vs H Q E h => ?_) (fun cdv A outer s H vs Q E hr h => ?_)
  · obtain ⟨h, l, rfl, _⟩ := h
    rfl
  obtain ⟨h, l, rfl, A0, q⟩ := h
  refine ⟨_, (pss_cons (ps_par rfl sc__law_figures_right.nd (i := 1) (j := 2) rfl rfl (by decide) rfl rfl (pa_cons (pe_op op_add pe_int (pe_call (ok__law_pick T) (hr.mono (by decide)) rfl T.m__law_pick T.F__law_pick.kp (b__law_pick T) .nil pass0 (pa_cons (pv 0) (pa_cons pe_int pa_nil (star1 rfl)) (star1 rfl)) (by decide) (star1 rfl) (starAll rfl))) (pa_cons (pe_tup (pa_cons pe_str (pa_cons pe_int (pa_cons (pe_tup (pa_cons pe_str pa_nil (star1 rfl))) pa_nil (star1 rfl)) (star1 rfl)) (star1 rfl))) pa_nil (star1 rfl)) (star1 rfl)) (by rfl))
  (pss_cons (ps_for PassesOwn.never rfl (pi_list (pe_lst (pa_cons (pe_op op_mulS pe_str (pv 1)) (pa_cons (pe_op op_mulS pe_str (pv 1)) (pa_cons (pe_op op_add_str pe_str (pe_op op_mulS pe_str (pv 1))) (pa_cons (pe_op op_add_str pe_str (pe_op op_mulS pe_str (pv 1))) (pa_cons (pe_op op_mulS pe_str pe_int) (pa_cons pe_str (pa_cons pe_str (pa_cons pe_str (pa_cons pe_str (pa_cons pe_str pa_nil (star1 rfl)) (star1 rfl)) (star1 rfl)) (star1 rfl)) (star1 rfl)) (star1 rfl)) (star1 rfl)) (star1 rfl)) (star1 rfl)) (star1 rfl)))) (pg_name (i := 3) sc__law_figures_right.nd rfl (Or.inl rfl)) (pss_one (ps_for PassesOwn.never rfl (pi_tup (pe_tup (pa_cons (pe_tup (pa_cons pe_str (pa_cons pe_str pa_nil (star1 rfl)) (star1 rfl))) (pa_cons (pe_tup (pa_cons pe_str (pa_cons pe_str pa_nil (star1 rfl)) (star1 rfl))) (pa_cons (pe_tup (pa_cons pe_str (pa_cons pe_str pa_nil (star1 rfl)) (star1 rfl))) (pa_cons (pe_tup (pa_cons pe_str (pa_cons pe_str pa_nil (star1 rfl)) (star1 rfl))) (pa_cons (pe_tup (pa_cons pe_str (pa_cons pe_str pa_nil (star1 rfl)) (star1 rfl))) pa_nil (star1 rfl)) (star1 rfl)) (star1 rfl)) (star1 rfl)) (star1 rfl)))) (pg_tup rfl (pgs_cons (pg_name (i := 5) sc__law_figures_right.nd rfl (Or.inl rfl)) (pgs_cons (pg_name (i := 6) sc__law_figures_right.nd rfl (Or.inl rfl)) pgs_nil))) (pss_one (ps_if (pt_cmpR (neDK (K := K) rfl (hu_e64 hr)) (pe_call (ok__law_told T) (hr.mono (by decide)) rfl T.m__law_told T.F__law_told.kp (b__law_told T) .nil pass0 (pa_cons (pv 2) (pa_cons (pe_op op_add_str (pe_op op_add_str (pe_op op_add_str pe_str (pv 5)) (pv 3)) (pv 6)) pa_nil (star1 rfl)) (star1 rfl)) (by decide) (star1 rfl) (starAll rfl)) (pe_tup (pa_cons pe_str (pa_cons pe_int pa_nil (star1 rfl)) (star1 rfl))) (nomark _)) (pss_one (ps_ret pe_bl)) pss_nil)))))
  (pss_cons (ps_set (i := 4) sc__law_figures_right.nd rfl (Or.inl rfl) (pe_tup (pa_cons (pe_tup (pa_cons pe_str (pa_cons (pe_tup (pa_cons (pe_tup (pa_cons pe_str (pa_cons pe_int pa_nil (star1 rfl)) (star1 rfl))) (pa_cons (pe_tup (pa_cons pe_str (pa_cons (pe_un un_neg pe_int) (pa_cons pe_int pa_nil (star1 rfl)) (star1 rfl)) (star1 rfl))) pa_nil (star1 rfl)) (star1 rfl))) pa_nil (star1 rfl)) (star1 rfl))) pa_nil (star1 rfl))))
  (pss_cons (ps_if (pt_cmpR (neDK (K := K) rfl (hu_e64 hr)) (pe_call (ok__law_told T) (hr.mono (by decide)) rfl T.m__law_told T.F__law_told.kp (b__law_told T) .nil pass0 (pa_cons (pv 2) (pa_cons pe_str pa_nil (star1 rfl)) (star1 rfl)) (by decide) (star1 rfl) (starAll rfl)) (pv 4) (nomark _)) (pss_one (ps_ret pe_bl)) pss_nil)
  (pss_one (ps_ret (pe_cmpR (eqDK (K := K) rfl (hu_e64 hr)) (pe_lst (pa_cons (pe_call (ok__law_told T) (hr.mono (by decide)) rfl T.m__law_told T.F__law_told.kp (b__law_told T) .nil pass0 (pa_cons (pv 2) (pa_cons pe_str pa_nil (star1 rfl)) (star1 rfl)) (by decide) (star1 rfl) (starAll rfl)) (pa_cons (pe_call (ok__law_told T) (hr.mono (by decide)) rfl T.m__law_told T.F__law_told.kp (b__law_told T) .nil pass0 (pa_cons (pv 2) (pa_cons pe_str pa_nil (star1 rfl)) (star1 rfl)) (by decide) (star1 rfl) (starAll rfl)) pa_nil (star1 rfl)) (star1 rfl))) (pe_lst (pa_cons pe_str (pa_cons pe_str pa_nil (star1 rfl)) (star1 rfl))) (nomark _)))))))), ?_⟩
  refine par2_raw90 ?_
  refine ⟨_, rfl, h, l, 600, rfl, A0, by decide, by decide, fun k H1 k0 k1 A1 kp => ⟨4301, k, rfl, rfl, ?_⟩⟩
  have n1 : 4301 ≤ 4301 + k := by omega
  have n2 : 4301 + k ≤ 4901 := by omega
  dsimp only
  generalize 4301 + k = n at n1 n2 ⊢
  have ml : ∀ c, (Txt.mul ⟨#[c]⟩ n).length = n.toNat := fun c => mul_len c n
  have e1 : ("1" : Str).length = 1 := by decide +kernel
  have e2 : ("-" : Str).length = 1 := by decide +kernel
  obtain ⟨o1, o2, o3, o4, o5, o6, o7⟩ := one_ok
  refine ⟨(by show 1 ≤ sizeLine; decide), fun p1 g1 => ⟨(by show 3 ≤ sizeLine; decide), fun p2 g2 => ⟨_, _, rfl, ?_⟩⟩⟩
  have f1 := Ex.new (o := .tup [.str "b"]) g1
  have f2 := Ex.new (o := .tup [.str "a", .int 1, .ref p1]) g2
  have tv : TrV (upd (upd H1 p1 (.tup [.str "b"])) p2 (.tup [.str "a", .int 1, .ref p1])) (.ref p2) (.grp "a" 1 [.hand "b"]) := .grp upd_same (f2 _ _ upd_same) (.cons (.hand _) .nil)
  show tSeq _ _ _ [some (.ref h), some (.int n), some (.ref p2), none, none, none, none] _
  generalize upd (upd H1 p1 (.tup [.str "b"])) p2 (.tup [.str "a", .int 1, .ref p1]) = H2 at tv ⊢
  refine q_forU ?_
  refine ⟨_, rfl, 56, n, congrArg V.str (by decide), rfl, by omega, by omega, _, rfl, 48, n, congrArg V.str (by decide), rfl, by omega, by omega, _, rfl, 48, n, congrArg V.str (by decide), rfl, by omega, by omega, "1", _, rfl, rfl, sz_of (by rw [ml, e1]; omega), _, rfl, 51, n, congrArg V.str (by decide), rfl, by omega, by omega, "-", _, rfl, rfl, sz_of (by rw [ml, e2]; omega), 49, 10, congrArg V.str (by decide), rfl, by decide, by decide, (by show 10 ≤ sizeLine; decide), fun p hp => ⟨p, rfl, ⟨_, sq_of upd_same⟩, ?_⟩⟩
  have hp2 : upd H2 p (.lst ((figW n).map V.str)) p = some (.lst ((figW n).map V.str)) := upd_same
  have tv3 := trv_tk (TK.ex (Ex.new (o := .lst ((figW n).map V.str)) hp)) _ _ tv
  have wok := figW_ok n1 n2
  refine list_turns (K := K) (a := p) (xs := (figW n).map V.str) (fun i σ' H' => Ex (upd H2 p (.lst ((figW n).map V.str))) H' ∧ ∃ c3 c4 c5 c6, σ' = [some (.ref h), some (.int n), some (.ref p2), c3, c4, c5, c6]) ⟨Ex.refl _, _, _, _, _, rfl⟩ (fun i σ' H' _ hP => sq_of (hP.1 _ _ hp2)) ?_ ?_
  · rintro i x σ' H3 hx ⟨f3, c3, c4, c5, c6, rfl⟩
    obtain ⟨y, hy, rfl⟩ := List.mem_map.mp (List.mem_of_getElem? hx)
    have wy := wok y hy
    refine ⟨(by show 2 ≤ sizeLine; decide), fun a1 i1 => ⟨(by show 2 ≤ sizeLine; decide), fun a2 i2 => ⟨(by show 2 ≤ sizeLine; decide), fun a3 i3 => ⟨(by show 2 ≤ sizeLine; decide), fun a4 i4 => ⟨(by show 2 ≤ sizeLine; decide), fun a5 i5 => ⟨(by show 5 ≤ sizeLine; decide), fun a6 i6 => ⟨a6, rfl, ⟨_, st_of upd_same⟩, ?_⟩⟩⟩⟩⟩⟩⟩
    have j1 := Ex.new (o := .tup [.str "take ", .str ""]) i1
    have j2 := Ex.new (o := .tup [.str "say ", .str ""]) i2
    have j3 := Ex.new (o := .tup [.str "goto ", .str ""]) i3
    have j4 := Ex.new (o := .tup [.str "if ", .str " 0"]) i4
    have j5 := Ex.new (o := .tup [.str "if 0 ", .str ""]) i5
    have j6 := Ex.new (o := .tup [V.ref a1, .ref a2, .ref a3, .ref a4, .ref a5]) i6
    have k1 := j6 _ _ (j5 _ _ (j4 _ _ (j3 _ _ (j2 _ _ (upd_same (H := H3) (a := a1) (o := .tup [.str "take ", .str ""]))))))
    have k2 := j6 _ _ (j5 _ _ (j4 _ _ (j3 _ _ (upd_same (H := upd H3 a1 (.tup [.str "take ", .str ""])) (a := a2) (o := .tup [.str "say ", .str ""])))))
    have k3 := j6 _ _ (j5 _ _ (j4 _ _ (upd_same (H := upd (upd H3 a1 (.tup [.str "take ", .str ""])) a2 (.tup [.str "say ", .str ""])) (a := a3) (o := .tup [.str "goto ", .str ""]))))
    have k4 := j6 _ _ (j5 _ _ (upd_same (H := upd (upd (upd H3 a1 (.tup [.str "take ", .str ""])) a2 (.tup [.str "say ", .str ""])) a3 (.tup [.str "goto ", .str ""])) (a := a4) (o := .tup [.str "if ", .str " 0"])))
    have k5 := j6 _ _ (upd_same (H := upd (upd (upd (upd H3 a1 (.tup [.str "take ", .str ""])) a2 (.tup [.str "say ", .str ""])) a3 (.tup [.str "goto ", .str ""])) a4 (.tup [.str "if ", .str " 0"])) (a := a5) (o := .tup [.str "if 0 ", .str ""]))
    have k6 := upd_same (H := upd (upd (upd (upd (upd H3 a1 (.tup [.str "take ", .str ""])) a2 (.tup [.str "say ", .str ""])) a3 (.tup [.str "goto ", .str ""])) a4 (.tup [.str "if ", .str " 0"])) a5 (.tup [.str "if 0 ", .str ""])) (a := a6) (o := .tup [V.ref a1, .ref a2, .ref a3, .ref a4, .ref a5])
    have j06 := f3.trans (j1.trans (j2.trans (j3.trans (j4.trans (j5.trans j6)))))
    generalize upd (upd (upd (upd (upd (upd H3 a1 (.tup [.str "take ", .str ""])) a2 (.tup [.str "say ", .str ""])) a3 (.tup [.str "goto ", .str ""])) a4 (.tup [.str "if ", .str " 0"])) a5 (.tup [.str "if 0 ", .str ""])) a6 (.tup [V.ref a1, .ref a2, .ref a3, .ref a4, .ref a5]) = H9 at k1 k2 k3 k4 k5 k6 j06 ⊢
    have each : ∀ v ∈ [V.ref a1, .ref a2, .ref a3, .ref a4, .ref a5], ∃ t, ∃ p ∈ figPs, v = .ref t ∧ H9 t = some (.tup [.str p.1, .str p.2]) := fun v hv => by
      simp only [List.mem_cons, List.not_mem_nil, or_false] at hv
      rcases hv with rfl | rfl | rfl | rfl | rfl
      · exact ⟨_, ("take ", ""), by simp [figPs], rfl, k1⟩
      · exact ⟨_, ("say ", ""), by simp [figPs], rfl, k2⟩
      · exact ⟨_, ("goto ", ""), by simp [figPs], rfl, k3⟩
      · exact ⟨_, ("if ", " 0"), by simp [figPs], rfl, k4⟩
      · exact ⟨_, ("if 0 ", ""), by simp [figPs], rfl, k5⟩
    refine tup_turnsN (K := K) (a := a6) (xs := [V.ref a1, .ref a2, .ref a3, .ref a4, .ref a5]) (tz := tNext) (fun j σ' H' => Ex H9 H' ∧ ∃ c4 c5 c6, σ' = [some (.ref h), some (.int n), some (.ref p2), some (.str y), c4, c5, c6]) ⟨Ex.refl _, _, _, _, rfl⟩ (fun i σ' H' _ hP => st_of (hP.1 _ _ k6)) ?_ ?_
    · rintro j v σ' H4 hv ⟨f4, c4, c5, c6, rfl⟩
      obtain ⟨t, pr, hpr, rfl, ht⟩ := each v (List.mem_of_getElem? hv)
      refine ⟨t, _, rfl, st_of (f4 _ _ ht), rfl, _, _, rfl, _, _, rfl, rfl, ?_⟩
      have fl := fig_len hpr wy
      have yl := wy.ln
      obtain ⟨g1, g2⟩ := fig_ln hpr
      have g0 : ("program b\nlet\n" : Str).length = 14 := by decide +kernel
      have f24 := j06.trans f4
      refine s_ifP (tst_raw ?_)
      refine ⟨_, rfl, _, rfl, _, _, rfl, rfl, sz_of (by rw [g0]; omega), _, rfl, _, _, rfl, rfl, sz_of (by rw [len_app, g0]; omega), _, rfl, _, _, rfl, rfl, sz_of (by rw [len_app, len_app, g0]; omega), .ref p2, .str (figT pr y), .str (figT pr y), "a", 1, [.hand "b"], ["b"], rfl, Dx.str _, trv_tk (TK.ex f24) _ _ tv3, o1, o2, o3, o4, o5, o6, o7, fun z hz => ?_, fun u H5 e5 dy => ?_⟩
      · cases hz
        exact ⟨by omega, by rw [figT_rows hpr wy]; simp⟩
      · rw [dueB_l (fig_out hpr wy)] at dy
        refine ⟨(by show 2 ≤ sizeLine; decide), fun tp htp => ?_⟩
        have e6 := Ex.new (o := .tup [.str "text", .int 2]) htp
        refine ⟨_, .tuple [.str "text", .int 2], dy_dp _ _ rfl (dy_mono e6 dy), .tup (st_of upd_same) (.cons (.str _) (.cons (.int _) .nil)), by decide +kernel, by decide +kernel, _, rfl, ?_⟩
        exact iteF' (by decide +kernel) (nx_tn ⟨f4.trans (e5.trans e6), _, _, _, rfl⟩)
    · rintro σ' H4 ⟨f4, c4, c5, c6, rfl⟩
      exact nx_tn ⟨j06.trans f4, _, _, _, _, rfl⟩
  · rintro σ' H3 ⟨f3, c3, c4, c5, c6, rfl⟩
    have deI : ∀ (i : Int) (σ : L2.St), DE K σ H3 (tC (.int i)) (.int i) := fun i σ H Q _ q => q _ H (Ex.refl H) (.int i)
    have deN : ∀ σ : L2.St, DE K σ H3 (tUn (rU fun i => V.int (-i)) (tC (V.int 999999999))) (.int (-999999999)) := fun σ H Q _ q => ⟨999999999, rfl, q _ H (Ex.refl H) (.int _)⟩
    refine q_asgP (DE.tup (DA.cons (DE.tup (DA.cons (DE.s "b") (DA.cons (DE.tup (DA.cons (DE.tup (DA.cons (DE.s "take") (DA.cons (deI _ _) DA.nil)) (by decide)) (DA.cons (DE.tup (DA.cons (DE.s "if") (DA.cons (deN _) (DA.cons (deI _ _) DA.nil))) (by decide)) DA.nil)) (by decide)) DA.nil)) (by decide)) DA.nil) (by decide) H3 _ (Ex.refl H3) fun vg H4 f4 dyg => ?_)
    have dyg : Dy K H4 vg greatD := dyg
    have f24 := f3.trans f4
    refine q_ifQ (tst_raw ?_)
    refine ⟨_, rfl, .ref p2, .str t2S, .str t2S, "a", 1, [.hand "b"], ["b"], rfl, Dx.str _, trv_tk (TK.ex f24) _ _ tv3, o1, o2, o3, o4, o5, o6, o7, fun z hz => ?_, fun u H5 e5 dy => ?_⟩
    · cases hz
      exact ⟨by decide +kernel, by decide +kernel⟩
    rw [t2_due] at dy
    refine ⟨_, rfl, greatD, greatD, dy_dp _ _ rfl dy, dy_dp _ _ rfl (dy_mono e5 dyg), by decide +kernel, by decide +kernel, _, rfl, iteF' (by decide +kernel) ?_⟩
    have f25 := f24.trans e5
    refine s_retP ?_
    refine ⟨_, rfl, .ref p2, .str "program b\ngoto 1", .str "program b\ngoto 1", "a", 1, [.hand "b"], ["b"], rfl, Dx.str _, trv_tk (TK.ex f25) _ _ tv3, o1, o2, o3, o4, o5, o6, o7, fun z hz => ?_, fun u1 H6 e6 dy1 => ?_⟩
    · cases hz
      exact ⟨by decide +kernel, by decide +kernel⟩
    rw [t3_due] at dy1
    cases dy1
    have f26 := f25.trans e6
    refine ⟨_, rfl, .ref p2, .str "program b\nsay 100", .str "program b\nsay 100", "a", 1, [.hand "b"], ["b"], rfl, Dx.str _, trv_tk (TK.ex f26) _ _ tv3, o1, o2, o3, o4, o5, o6, o7, fun z hz => ?_, fun u2 H7 e7 dy2 => ?_⟩
    · cases hz
      exact ⟨by decide +kernel, by decide +kernel⟩
    rw [t4_due] at dy2
    cases dy2
    refine ⟨(by show 2 ≤ sizeLine; decide), fun l1 hl1 => ⟨(by show 2 ≤ sizeLine; decide), fun l2 hl2 => ?_⟩⟩
    have e8 := Ex.new (o := .lst [.str "book", .str "book"]) hl2
    refine ⟨.list [.str "book", .str "book"], .list [.str "book", .str "book"], .lst (sq_of (e8 _ _ upd_same)) (.cons (.str _) (.cons (.str _) .nil)), .lst (sq_of upd_same) (.cons (.str _) (.cons (.str _) .nil)), by decide +kernel, by decide +kernel, ?_⟩
    rw [show (PyData.eqv (.list [.str "book", .str "book"]) (.list [.str "book", .str "book"])) = true from by decide +kernel]
    exact q _
end
/-! ### the law -/
theorem hu_340 {k : Nat} {A : Around} (hr : Room (k + 9) A) : A.units + 340 < cLine := by
  have := hr.un
  omega
theorem mz0 {x : Str} (h : 10 ∉ x.cps.toList) : mz nlF x = 0 := by
  unfold mz
  refine sum_zero fun c hc => ?_
  unfold nlF
  rw [if_neg (fun e => h (by rw [← e]; exact hc))]
def bdK : Nat → Nat
  | 0 => 3300
  | k + 1 => 2 * bdK k + 60
theorem bdK_le : ∀ k, k ≤ 3 → bdK k ≤ 30000
  | 0, _ => by decide
  | 1, _ => by decide
  | 2, _ => by decide
  | 3, _ => by decide
theorem num_l10 {a : Int} (h : -100000000 ≤ a ∧ a ≤ 100000000) : (numS a).length ≤ 10 := by
  by_cases h0 : 0 ≤ a
  · obtain ⟨k, rfl⟩ : ∃ k : Nat, a = k := ⟨a.toNat, by omega⟩
    have := (numS_len (n := k) (by omega)).2
    omega
  · obtain ⟨k, rfl⟩ : ∃ k : Nat, a = -((k : Int) + 1) := ⟨(-a - 1).toNat, by omega⟩
    have ht := neg_tl k
    have hl : (numS (-((k : Int) + 1))).length = (TL.numL (k + 1)).length + 1 := by
      have : (numS (-((k : Int) + 1))).cps.toList.length = (numS (-((k : Int) + 1))).length := by simp [Str.length]
      rw [ht, List.length_cons] at this
      omega
    have := TL.numL_len (n := k + 1) (k := 9) (by decide) (by omega)
    omega
theorem row_l30 {k : Nat} {ds : List PyData} (ok : RwOk k ds) : (rowR ds).length ≤ 30 := by
  have e1 : (" " : Str).length = 1 := by decide +kernel
  have two : ∀ (z : Str) (i : Int), z.length ≤ 4 → -100000000 ≤ i ∧ i ≤ 100000000 → (Txt.join " " [z, numS i]).length ≤ 30 := fun z i hz hi => by
    have h4 := StrLaws.join_length_le " " [z, numS i]
    have := num_l10 hi
    simp only [List.map_cons, List.map_nil, List.sum_cons, List.sum_nil, List.length_cons, List.length_nil, e1] at h4
    rw [TL.join_eq]
    omega
  rcases row_cases ok with rfl | ⟨i, rfl, hi⟩ | rfl | rfl | ⟨i, rfl, hi⟩ | ⟨i, rfl, hi⟩ | ⟨a, i, rfl, ha, hi⟩
  · decide +kernel
  · exact two "take" i (by decide +kernel) (by omega)
  · decide +kernel
  · decide +kernel
  · exact two "say" i (by decide +kernel) (by omega)
  · exact two "goto" i (by decide +kernel) (by omega)
  · show (Txt.join " " ["if", numS a, numS i]).length ≤ 30
    have h4 := StrLaws.join_length_le " " ["if", numS a, numS i]
    have := num_l10 ha
    have := num_l10 (a := i) (by omega)
    have e2 : ("if" : Str).length = 2 := by decide +kernel
    simp only [List.map_cons, List.map_nil, List.sum_cons, List.sum_nil, List.length_cons, List.length_nil, e1, e2] at h4
    rw [TL.join_eq]
    omega
theorem bk_l30 {bk : List Pg} (ok : BkOk bk) : ∀ y ∈ bkRows bk, y.length ≤ 30 := by
  intro y hy
  obtain ⟨p, hp, hy⟩ := List.mem_flatMap.mp hy
  rcases List.mem_cons.mp hy with rfl | hy
  · have := (ok.nm p hp).2.1
    have h4 := StrLaws.join_length_le " " ["program", p.1]
    have e1 : (" " : Str).length = 1 := by decide +kernel
    have e2 : ("program" : Str).length = 7 := by decide +kernel
    simp only [List.map_cons, List.map_nil, List.sum_cons, List.sum_nil, List.length_cons, List.length_nil, e1, e2] at h4
    unfold prgR
    rw [TL.join_eq]
    omega
  · obtain ⟨ds, hd, rfl⟩ := List.mem_map.mp hy
    exact row_l30 (ok.rw_ p hp ds hd)
theorem bk_rows4 : ∀ (l : List Pg), (∀ p ∈ l, p.2.length ≤ 4) → (bkRows l).length ≤ l.length * 5
  | [], _ => by simp [bkRows]
  | p :: l, h => by
    have h1 := h p (by simp)
    have h2 := bk_rows4 l fun q hq => h q (List.mem_cons_of_mem _ hq)
    show ((prgR p.1 :: p.2.map rowR) ++ bkRows l).length ≤ _
    rw [List.length_append, List.length_cons, List.length_map, List.length_cons]
    omega
theorem book_bd {bk : List Pg} (ok : BkOk bk) (h15 : bk.length ≤ 15) (h4 : ∀ p ∈ bk, p.2.length ≤ 4) : (bookText bk).length ≤ bdK 0 ∧ mz nlF (bookText bk) ≤ 130 := by
  have h1 := sum_len (B := 30) (bk_l30 ok)
  have h2 := bk_rows4 bk h4
  have h3 := len_joinL "\n" ln_nl (bkRows bk)
  have g4 := mz_joinL nlF "\n" (bkRows bk)
  rw [sum_zero (fun y hy => by
    rw [← btoks_txt] at hy
    obtain ⟨w, hw, rfl⟩ := List.mem_map.mp hy
    exact mz0 (bt_free (btoks_fit ok w hw))), nl_nl] at g4
  have h5 : ((bkRows bk).map Str.length).sum ≤ (bkRows bk).length * 30 := h1
  unfold bookText
  show _ ≤ 3300 ∧ _
  exact ⟨by omega, by omega⟩
theorem rows_pg {K : PySem.W.Frag} {H : Hp} {k : Nat} : ∀ {xs : List V}, (∀ v ∈ xs, Drawn H v k) → ∃ dss : List (List PyData), DyAll K H xs (dss.map PyData.tuple) ∧ ∀ ds ∈ dss, RwOk k ds
  | [], _ => ⟨[], .nil, fun ds h => by cases h⟩
  | v :: vs, h => by
    obtain ⟨a, es, rfl, ha, hf, hfit, hl⟩ := h v (List.mem_cons_self ..)
    obtain ⟨dss, h1, h2⟩ := rows_pg (K := K) (k := k) fun u hu => h u (List.mem_cons_of_mem _ hu)
    refine ⟨es :: dss, .cons (.tup (st_of ha) (dyfs hf)) h1, fun ds hd => ?_⟩
    rcases List.mem_cons.mp hd with rfl | hd
    · exact ⟨hf, hfit, hl⟩
    · exact h2 ds hd
theorem book_pg {K : PySem.W.Frag} {H : Hp} {k : Nat} : ∀ {xs : List V} {ys : List Str}, BookV H k xs ys → ∃ bk : List Pg, DyAll K H xs (bk.map pD) ∧ bk.map (·.1) = ys ∧ ∀ p ∈ bk, p.2.length ≤ k ∧ ∀ ds ∈ p.2, RwOk p.2.length ds
  | _, _, .nil => ⟨[], .nil, rfl, fun p h => by cases h⟩
  | _, y :: _, .cons hp hb => by
    obtain ⟨bk, h1, h2, h3⟩ := book_pg (K := K) hb
    obtain ⟨c, pa, rs, rfl, k1, k2, k3, k4⟩ := hp
    obtain ⟨dss, g1, g2⟩ := rows_pg (K := K) (k := rs.length) k4
    have e : dss.length = rs.length := by
      have := dya_len g1
      rw [List.length_map] at this
      exact this.symm
    refine ⟨(y, dss) :: bk, .cons (.tup (st_of k1) (.cons (.str y) (.cons (.tup (st_of k2) g1) .nil))) h1, by rw [List.map_cons, h2], fun p hp => ?_⟩
    rcases List.mem_cons.mp hp with rfl | hp
    · exact ⟨by show dss.length ≤ k; omega, by show ∀ ds ∈ dss, RwOk dss.length ds; rw [e]; exact g2⟩
    · exact h3 p hp
def headS : List Str := ["program a", "program abcdefghi", "take", "take 0", "try", "let", "say 99", "say 100", "goto 0", "goto 9", "if 0 0", "if -1 0", "if 7 9", "program", "lets"]
theorem head_ok : ∀ x ∈ headS, x.length ≤ 40 ∧ mz nlF x = 0 := by decide +kernel
def spLaw (K : PySem.W.Frag) : Sp := fun vs H Q _ => ∃ (a : Addr) (ns : List Int), vs = [.ref a] ∧ SqL K H a (ns.map V.int) ∧ ns.length ≤ 63 ∧ Sy K H ∧ ∀ H', Q (.bl true) H'
section
variable {P : Program} {w : World} {K : PySem.W.Frag} {mg : Str → Option Value} {base : Heap}
theorem ok_law (T : Tp w K mg) : FnG P w K mg base 19 T.f_law T.d_law ["_law_script"] (spLaw K) := by
  refine fun_g T.F_law sc_law (fun vs H Q E h => ?_) (fun cdv A outer s H vs Q E hG hr h => ?_)
  · obtain ⟨a, ns, rfl, _⟩ := h
    rfl
  obtain ⟨a, ns, rfl, ha, nl, y0, q⟩ := h
  refine ⟨_, (pss_cons (ps_set (i := 1) sc_law.nd rfl (Or.inl rfl) (pe_call (ok__law_hand T) (hr.mono (by decide)) rfl T.m__law_hand T.F__law_hand.kp (b__law_hand T) .nil pass0 (pa_cons (pv 0) pa_nil (star1 rfl)) (by decide) (star1 rfl) (starAll rfl)))
  (pss_cons (ps_set (i := 2) sc_law.nd rfl (Or.inl rfl) (pe_lst (pa_cons pe_str (pa_cons pe_str (pa_cons pe_str (pa_cons pe_str (pa_cons pe_str (pa_cons pe_str (pa_cons pe_str (pa_cons pe_str (pa_cons pe_str (pa_cons pe_str pa_nil (star1 rfl)) (star1 rfl)) (star1 rfl)) (star1 rfl)) (star1 rfl)) (star1 rfl)) (star1 rfl)) (star1 rfl)) (star1 rfl)) (star1 rfl))))
  (pss_cons (ps_set (i := 2) sc_law.nd rfl (Or.inl rfl) (pe_op (op_cat) (pv 2) (pe_lst (pa_cons pe_str (pa_cons pe_str (pa_cons pe_str (pa_cons pe_str (pa_cons pe_str pa_nil (star1 rfl)) (star1 rfl)) (star1 rfl)) (star1 rfl)) (star1 rfl)))))
  (pss_cons (ps_for PassesOwn.never rfl (pi_range1 rfl T.z_range (pa_cons pe_int pa_nil (star1 rfl))) (pg_name (i := 3) sc_law.nd rfl (Or.inl rfl)) (pss_cons (ps_set (i := 5) sc_law.nd rfl (Or.inr rfl) (pe_call (ok__law_plan T) (hr.mono (by decide)) rfl T.m__law_plan T.F__law_plan.kp (b__law_plan T) .nil pass0 (pa_cons (pv 1) (pa_cons (pe_call0 (ok__law_sizes T) (hr.mono (by decide)) rfl T.m__law_sizes T.F__law_sizes.kp (b__law_sizes T) .nil pass0) pa_nil (star1 rfl)) (star1 rfl)) (by decide) (star1 rfl) (starAll rfl)))
  (pss_cons (ps_set (i := 6) sc_law.nd rfl (Or.inl rfl) (pe_call (ok__law_book_text T) (hr.mono (by decide)) rfl T.m__law_book_text T.F__law_book_text.kp (b__law_book_text T) .nil pass0 (pa_cons (pe_call (ok__law_book T) (hr.mono (by decide)) rfl T.m__law_book T.F__law_book.kp (b__law_book T) .nil pass0 (pa_cons (pv 1) (pa_cons (pv 5) (pa_cons pe_int pa_nil (star1 rfl)) (star1 rfl)) (star1 rfl)) (by decide) (star1 rfl) (starAll rfl)) pa_nil (star1 rfl)) (by decide) (star1 rfl) (starAll rfl)))
  (pss_one (ps_for PassesOwn.never rfl (pi_range1 rfl T.z_range (pa_cons pe_int pa_nil (star1 rfl))) (pg_name (i := 7) sc_law.nd rfl (Or.inl rfl)) (pss_cons (ps_set (i := 8) sc_law.nd rfl (Or.inl rfl) (pv 6))
  (pss_cons (ps_for PassesOwn.never rfl (pi_range1 rfl T.z_range (pa_cons (pe_ifExp (pt_cmpR op_gt (pv 7) pe_int (nomark _)) (pe_call (ok__law_of T) (hr.mono (by decide)) rfl T.m__law_of T.F__law_of.kp (b__law_of T) .nil pass0 (pa_cons (pv 1) (pa_cons (pe_lst (pa_cons pe_int (pa_cons pe_int (pa_cons pe_int (pa_cons pe_int pa_nil (star1 rfl)) (star1 rfl)) (star1 rfl)) (star1 rfl))) pa_nil (star1 rfl)) (star1 rfl)) (by decide) (star1 rfl) (starAll rfl)) pe_int) pa_nil (star1 rfl))) (pg_name (i := 9) sc_law.nd rfl (Or.inl rfl)) (pss_one (ps_set (i := 8) sc_law.nd rfl (Or.inl rfl) (pe_call (ok__law_spoilt T) (hr.mono (by decide)) rfl T.m__law_spoilt T.F__law_spoilt.kp (b__law_spoilt T) .nil pass0 (pa_cons (pv 1) (pa_cons (pv 8) (pa_cons (pv 2) pa_nil (star1 rfl)) (star1 rfl)) (star1 rfl)) (by decide) (star1 rfl) (starAll rfl)))))
  (pss_one (ps_if (pt_cmpR op_ne (pe_callB (reprZK (K := K) rfl hG (hu_340 hr)) rfl T.z_repr (by decide +kernel) (pa_cons (pe_call (ok__law_told T) (hr.mono (by decide)) rfl T.m__law_told T.F__law_told.kp (b__law_told T) .nil pass0 (pa_cons (pv 5) (pa_cons (pv 8) pa_nil (star1 rfl)) (star1 rfl)) (by decide) (star1 rfl) (starAll rfl)) pa_nil (star1 rfl)) (by decide) (by decide) (star1 rfl) (starAll rfl)) (pe_callB (reprZK (K := K) rfl hG (hu_340 hr)) rfl T.z_repr (by decide +kernel) (pa_cons (pe_call (ok__law_due T) (hr.mono (by decide)) rfl T.m__law_due T.F__law_due.kp (b__law_due T) .nil pass0 (pa_cons (pv 5) (pa_cons (pv 8) pa_nil (star1 rfl)) (star1 rfl)) (by decide) (star1 rfl) (starAll rfl)) pa_nil (star1 rfl)) (by decide) (by decide) (star1 rfl) (starAll rfl)) (nomark _)) (pss_one (ps_ret pe_bl)) pss_nil)))))))))
  (pss_cons (ps_asg (pe_tup (pa_cons (pe_lst (pa_cons pe_non (pa_cons pe_bl (pa_cons pe_int (pa_cons (pe_lst (pa_cons pe_str pa_nil (star1 rfl))) (pa_cons (pe_tup (pa_cons (pe_tup (pa_cons pe_str (pa_cons (pe_tup pa_nil) pa_nil (star1 rfl)) (star1 rfl))) pa_nil (star1 rfl))) (pa_cons pe_dnewK (pa_cons pe_str (pa_cons pe_str (pa_cons pe_str (pa_cons pe_str (pa_cons pe_str pa_nil (star1 rfl)) (star1 rfl)) (star1 rfl)) (star1 rfl)) (star1 rfl)) (star1 rfl)) (star1 rfl)) (star1 rfl)) (star1 rfl)) (star1 rfl)) (star1 rfl))) (pa_cons (pe_tup (pa_cons pe_str (pa_cons pe_int (pa_cons (pe_tup (pa_cons pe_str pa_nil (star1 rfl))) pa_nil (star1 rfl)) (star1 rfl)) (star1 rfl))) pa_nil (star1 rfl)) (star1 rfl))) (pg_tup rfl (pgs_cons (pg_name (i := 4) sc_law.nd rfl (Or.inl rfl)) (pgs_cons (pg_name (i := 5) sc_law.nd rfl (Or.inr rfl)) pgs_nil))))
  (pss_one (ps_ret (pe_and (pe_callB (allK (K := K) rfl rfl) rfl T.z_all (by decide +kernel) (pa_cons (pe_lc (own := [("_law_thing", 8)]) (g := gName 8) (tt := tYes) rfl sc_law.nd (pi_list (pv 4)) (blkOk_by (N := N_law) (sc := defScope s_law) (by decide +kernel)) (fun _ _ _ _ _ => (pg_name (i := 8) sc_law.nd rfl (Or.inl rfl))) (fun _ _ _ _ _ => pts_nil) (fun _ _ _ _ _ => (pe_cmpR (eqDK (K := K) rfl (hu_e64 hr)) (pe_call (ok__law_told T) (hr.mono (by decide)) rfl T.m__law_told T.F__law_told.kp (b__law_told T) .nil pass0 (pa_cons (pv 5) (pa_cons (pv 8) pa_nil (star1 rfl)) (star1 rfl)) (by decide) (star1 rfl) (starAll rfl)) (pe_tup (pa_cons pe_str (pa_cons pe_int pa_nil (star1 rfl)) (star1 rfl))) (nomark _)))) pa_nil (star1 rfl)) (by decide) (by decide) (star1 rfl) (starAll rfl)) (pe_one (pe_call (ok__law_figures_right T) (hr.mono (by decide)) rfl T.m__law_figures_right T.F__law_figures_right.kp (b__law_figures_right T) .nil pass0 (pa_cons (pv 1) pa_nil (star1 rfl)) (by decide) (star1 rfl) (starAll rfl))))))))))), ?_⟩
  refine q_asgP ?_
  refine ⟨_, rfl, a, ns, rfl, ha, nl, fun h l H1 e1 hh hl A1 => ?_⟩
  refine q_asgP ?_
  refine ⟨(by show 10 ≤ sizeLine; decide), fun b0 hb0 => ?_⟩
  refine q_asgP ?_
  refine ⟨_, rfl, (by show 5 ≤ sizeLine; decide), fun b1 hb1 => ?_⟩
  refine ⟨b0, b1, _, _, rfl, rfl, (Ex.new hb1) _ _ upd_same, upd_same, (by show 15 ≤ sizeLine; decide), fun b hb => ?_⟩
  have f0 := (Ex.new (o := .lst ((["program a", "program abcdefghi", "take", "take 0", "try", "let", "say 99", "say 100", "goto 0", "goto 9"] : List Str).map V.str)) hb0).trans (Ex.new (o := .lst ((["if 0 0", "if -1 0", "if 7 9", "program", "lets"] : List Str).map V.str)) hb1)
  have f1 := f0.trans (Ex.new (o := .lst (headS.map V.str)) hb)
  obtain ⟨bh, bl⟩ := (A1.ex f0).fresh hb
  have y2 := (y0.ex e1).ex f1
  have A2 := A1.ex f1
  have hb2 : upd (upd (upd H1 b0 (.lst ((["program a", "program abcdefghi", "take", "take 0", "try", "let", "say 99", "say 100", "goto 0", "goto 9"] : List Str).map V.str))) b1 (.lst ((["if 0 0", "if -1 0", "if 7 9", "program", "lets"] : List Str).map V.str))) b (.lst (headS.map V.str)) b = some (.lst (headS.map V.str)) := upd_same
  show tSeq _ _ _ [some (.ref a), some (.ref h), some (.ref b), none, none, none, none, none, none, none] (upd (upd (upd H1 b0 (.lst ((["program a", "program abcdefghi", "take", "take 0", "try", "let", "say 99", "say 100", "goto 0", "goto 9"] : List Str).map V.str))) b1 (.lst ((["if 0 0", "if -1 0", "if 7 9", "program", "lets"] : List Str).map V.str))) b (.lst (headS.map V.str)))
  generalize upd (upd (upd H1 b0 (.lst ((["program a", "program abcdefghi", "take", "take 0", "try", "let", "say 99", "say 100", "goto 0", "goto 9"] : List Str).map V.str))) b1 (.lst ((["if 0 0", "if -1 0", "if 7 9", "program", "lets"] : List Str).map V.str))) b (.lst (headS.map V.str)) = H2 at y2 A2 hb2 ⊢
  refine q_forU ?_
  refine ⟨2, rfl, by decide, by decide, ?_⟩
  refine rng_turns (fun i σ' H' => Hand H' h l ∧ Sy K H' ∧ H' b = some (.lst (headS.map V.str)) ∧ ∃ c3 c4 c5 c6 c7 c8 c9, σ' = [some (.ref a), some (.ref h), some (.ref b), c3, c4, c5, c6, c7, c8, c9]) ⟨A2, y2, hb2, _, _, _, _, _, _, _, rfl⟩ ?_ ?_
  rotate_left
  · rintro σ' H2 ⟨A2, y2, hb2, c3, c4, c5, c6, c7, c8, c9, rfl⟩
    refine q_asgG ?_
    obtain ⟨o1, o2, o3, o4, o5, o6, o7⟩ := one_ok
    refine ⟨(by show 1 ≤ sizeLine; decide), fun p1 g1 => ⟨(by show 0 ≤ sizeLine; decide), fun p2 g2 => ⟨(by show 2 ≤ sizeLine; decide), fun p3 g3 => ⟨(by show 1 ≤ sizeLine; decide), fun p4 g4 p5 g5 => ⟨(by show 11 ≤ sizeLine; decide), fun p6 g6 => ⟨(by show 1 ≤ sizeLine; decide), fun p7 g7 => ⟨(by show 3 ≤ sizeLine; decide), fun p8 g8 => ⟨(by show 2 ≤ sizeLine; decide), fun p9 g9 => ⟨p9, _, rfl, st_of upd_same, rfl, _, _, rfl, _, _, rfl, rfl, ?_⟩⟩⟩⟩⟩⟩⟩⟩⟩
    have f1 := Ex.new (o := .lst [.str "program a"]) g1
    have f2 := Ex.new (o := .tup []) g2
    have f3 := Ex.new (o := .tup [.str "a", .ref p2]) g3
    have f4 := Ex.new (o := .tup [V.ref p3]) g4
    have f5 := Ex.new (o := .dK []) g5
    have f6 := Ex.new (o := .lst [.non, .bl true, .int 0, .ref p1, .ref p4, .ref p5, .str "", .str "\n", .str " ", .str "let", .str "take"]) g6
    have f7 := Ex.new (o := .tup [.str "b"]) g7
    have f8 := Ex.new (o := .tup [.str "a", .int 1, .ref p7]) g8
    have f9 := Ex.new (o := .tup [V.ref p6, .ref p8]) g9
    have h1 := f9 _ _ (f8 _ _ (f7 _ _ (f6 _ _ (f5 _ _ (f4 _ _ (f3 _ _ (f2 _ _ (upd_same (H := H2) (a := p1) (o := .lst [.str "program a"])))))))))
    have h2 := f9 _ _ (f8 _ _ (f7 _ _ (f6 _ _ (f5 _ _ (f4 _ _ (f3 _ _ (upd_same (H := upd H2 p1 (.lst [.str "program a"])) (a := p2) (o := .tup []))))))))
    have h3 := f9 _ _ (f8 _ _ (f7 _ _ (f6 _ _ (f5 _ _ (f4 _ _ (upd_same (H := upd (upd H2 p1 (.lst [.str "program a"])) p2 (.tup [])) (a := p3) (o := .tup [.str "a", .ref p2])))))))
    have h4 := f9 _ _ (f8 _ _ (f7 _ _ (f6 _ _ (f5 _ _ (upd_same (H := upd (upd (upd H2 p1 (.lst [.str "program a"])) p2 (.tup [])) p3 (.tup [.str "a", .ref p2])) (a := p4) (o := .tup [V.ref p3]))))))
    have h5 := f9 _ _ (f8 _ _ (f7 _ _ (f6 _ _ (upd_same (H := upd (upd (upd (upd H2 p1 (.lst [.str "program a"])) p2 (.tup [])) p3 (.tup [.str "a", .ref p2])) p4 (.tup [V.ref p3])) (a := p5) (o := .dK [])))))
    have h6 := f9 _ _ (f8 _ _ (f7 _ _ (upd_same (H := upd (upd (upd (upd (upd H2 p1 (.lst [.str "program a"])) p2 (.tup [])) p3 (.tup [.str "a", .ref p2])) p4 (.tup [V.ref p3])) p5 (.dK [])) (a := p6) (o := .lst [.non, .bl true, .int 0, .ref p1, .ref p4, .ref p5, .str "", .str "\n", .str " ", .str "let", .str "take"]))))
    have tv : TrV (upd (upd (upd (upd (upd (upd (upd (upd (upd H2 p1 (.lst [.str "program a"])) p2 (.tup [])) p3 (.tup [.str "a", .ref p2])) p4 (.tup [V.ref p3])) p5 (.dK [])) p6 (.lst [.non, .bl true, .int 0, .ref p1, .ref p4, .ref p5, .str "", .str "\n", .str " ", .str "let", .str "take"])) p7 (.tup [.str "b"])) p8 (.tup [.str "a", .int 1, .ref p7])) p9 (.tup [V.ref p6, .ref p8])) (.ref p8) (.grp "a" 1 [.hand "b"]) := .grp (f9 _ _ upd_same) (f9 _ _ (f8 _ _ upd_same)) (.cons (.hand _) .nil)
    have A5 := A2.ex (f1.trans (f2.trans (f3.trans (f4.trans (f5.trans (f6.trans (f7.trans (f8.trans f9))))))))
    show tRet _ _ [some (.ref a), some (.ref h), some (.ref b), c3, some (.ref p6), some (.ref p8), c6, c7, c8, c9] _
    generalize upd (upd (upd (upd (upd (upd (upd (upd (upd H2 p1 (.lst [.str "program a"])) p2 (.tup [])) p3 (.tup [.str "a", .ref p2])) p4 (.tup [V.ref p3])) p5 (.dK [])) p6 (.lst [.non, .bl true, .int 0, .ref p1, .ref p4, .ref p5, .str "", .str "\n", .str " ", .str "let", .str "take"])) p7 (.tup [.str "b"])) p8 (.tup [.str "a", .int 1, .ref p7])) p9 (.tup [V.ref p6, .ref p8]) = H3 at h1 h2 h3 h4 h5 h6 tv A5 ⊢
    have str : ∀ (x : Str) (H' : Hp), x.length ≤ 10 → (Txt.split x "\n").length ≤ 140 → outBZ x = .inl 0 → ∃ d, Dx K H' (.str x) d ∧ (∀ z, d = .str z → z.length ≤ 30000 ∧ (Txt.split z "\n").length ≤ 140) ∧ dueB ["b"] d = .tuple [.str "text", .int 0] := fun x H' k1 k2 k3 => ⟨.str x, .str x, fun z hz => by cases hz; exact ⟨by omega, k2⟩, dueB_l k3⟩
    have dat : ∀ x ∈ [V.non, .bl true, .int 0, .ref p1, .ref p4, .ref p5, .str "", .str "\n", .str " ", .str "let", .str "take"], ∀ H', Ex H3 H' → ∃ d, Dx K H' x d ∧ (∀ z, d = .str z → z.length ≤ 30000 ∧ (Txt.split z "\n").length ≤ 140) ∧ dueB ["b"] d = .tuple [.str "text", .int 0] := fun x hx H' e => by
      simp only [List.mem_cons, List.not_mem_nil, or_false] at hx
      rcases hx with rfl | rfl | rfl | rfl | rfl | rfl | rfl | rfl | rfl | rfl | rfl
      · exact ⟨.none, .non, fun z hz => (by cases hz), rfl⟩
      · exact ⟨.bool true, .bl true, fun z hz => (by cases hz), rfl⟩
      · exact ⟨.int 0, .int 0, fun z hz => (by cases hz), rfl⟩
      · exact ⟨.list [.str "program a"], .lst (sq_of (e _ _ h1)) (.cons (.str _) .nil), fun z hz => (by cases hz), rfl⟩
      · exact ⟨.tuple [.tuple [.str "a", .tuple []]], .tup (st_of (e _ _ h4)) (.cons (.tup (st_of (e _ _ h3)) (.cons (.str _) (.cons (.tup (st_of (e _ _ h2)) .nil) .nil))) .nil), fun z hz => (by cases hz), rfl⟩
      · exact ⟨.dict [], .dct (e _ _ h5), fun z hz => (by cases hz), rfl⟩
      · exact str _ H' (by decide +kernel) (by decide +kernel) (by kernel_rfl)
      · exact str _ H' (by decide +kernel) (by decide +kernel) (by kernel_rfl)
      · exact str _ H' (by decide +kernel) (by decide +kernel) (by kernel_rfl)
      · exact str _ H' (by decide +kernel) (by decide +kernel) (by kernel_rfl)
      · exact str _ H' (by decide +kernel) (by decide +kernel) (by kernel_rfl)
    refine s_retP (andV_raw ?_)
    have c := el_lcL (K := K) (σ := [some (.ref a), some (.ref h), some (.ref b), c3, some (.ref p6), some (.ref p8), c6, c7, c8, c9]) (H := H3) (t := tYes) (te := tOp (rEqD K) (tCall (spTold K) [] E0 (tCons (tVar 5) (tCons (tVar 8) tNil))) (tTup (tCons (tC (.str "text")) (tCons (tC (.int 0)) tNil)))) (j := 8) (vs := [8]) (fun _ => true) (fun _ => .bl true) (ev_var (i := 4) rfl) (sq_of h6) (by simp) (fun x => rfl) (fun i x H1 e hx => et_yes) (fun i x H1 e hx _ => fun H4 e4 Q4 q4 => by
      obtain ⟨d, dx, cd, due⟩ := dat x (List.mem_of_getElem? hx) H4 (e.trans e4)
      refine ⟨_, rfl, _, rfl, .ref p8, x, d, "a", 1, [.hand "b"], ["b"], rfl, dx, trv_tk (TK.ex (e.trans e4)) _ _ tv, o1, o2, o3, o4, o5, o6, o7, cd, fun u H5 e5 dy => ⟨(by show 2 ≤ sizeLine; decide), fun tp htp => ?_⟩⟩
      rw [due] at dy
      have e6 := Ex.new (o := .tup [.str "text", .int 0]) htp
      refine ⟨_, .tuple [.str "text", .int 0], dy_dp _ _ rfl (dy_mono e6 dy), .tup (st_of upd_same) (.cons (.str _) (.cons (.int _) .nil)), by decide +kernel, by decide +kernel, ?_⟩
      rw [show (PyData.eqv (.tuple [.str "text", .int 0]) (.tuple [.str "text", .int 0])) = true from by decide +kernel]
      exact q4 _ (e5.trans e6))
    refine (ev_allN (bs := List.replicate 11 true) c) H3 (Ex.refl H3) _ fun H6 e6 => ⟨_, rfl, iteT' (by decide) ?_⟩
    exact ⟨_, rfl, h, l, rfl, A5.ex e6, fun H' => q H'⟩
  rintro i σ' H2 hi ⟨A2, y2, hb2, c3, c4, c5, c6, c7, c8, c9, rfl⟩
  refine q_asgP ?_
  refine ⟨_, rfl, rfl, fun sa xs H3 e3 hsa0 hsa x1 x2 hxs => ?_⟩
  obtain ⟨n1, n2⟩ := A2.fresh hsa0
  refine ⟨h, l, sa, xs, rfl, A2.ex e3, n1, n2, hsa, x1, x2, hxs, fun v n bb ms H4 A4 k4 tv tok tdp tsz tnd tnm => ?_⟩
  have y4 : Sy K H4 := (y2.ex e3).kp (A2.ex e3) k4
  have hb4 := k4 b _ bh bl (e3 _ _ hb2)
  refine q_asgP ?_
  refine ⟨_, rfl, _, rfl, h, l, v, n, bb, ms, rfl, A4, tv, by omega, by omega, fun ba bx ys H5 A5 k5 hpm hsd hba hbv => ?_⟩
  have tv5 : TrV H5 v (.grp n bb ms) := trv_tk (fun c zs e => kp_tup A4 k5 e) _ _ tv
  have y5 := y4.kp A4 k5
  have hb5 := k5 b _ bh bl hb4
  have yn : ∀ y ∈ ys, nameOk y := fun y hy => tnm y (hands_in _ y (hpm.mem_iff.mp hy))
  have hl2 : ys.length ≤ 15 := by
    rw [hpm.length_eq]
    unfold handsOf
    rw [hnd_told]
    have := hnd_len (.grp n bb ms)
    omega
  obtain ⟨bk, g1, g2, g3⟩ := book_pg (K := K) hbv
  have bl15 : bk.length ≤ 15 := by
    have := congrArg List.length g2
    rw [List.length_map] at this
    omega
  have bok : BkOk bk := ⟨by omega, fun p hp => yn _ (by rw [← g2]; exact List.mem_map.mpr ⟨p, hp, rfl⟩), fun p hp => by have := (g3 p hp).1; omega, fun p hp => (g3 p hp).2⟩
  refine ⟨.ref ba, bk, rfl, .tup (st_of hba) g1, bok, fun H5' e5 => ?_⟩
  obtain ⟨tl0, tn0⟩ := book_bd bok bl15 fun p hp => (g3 p hp).1
  generalize bookText bk = zt at tl0 tn0 ⊢
  have tv6 := trv_tk (TK.ex e5) _ _ tv5
  refine ⟨15, rfl, by decide, by decide, ?_⟩
  refine rng_turns (tz := tNext) (fun j σ' H' => Hand H' h l ∧ Sy K H' ∧ H' b = some (.lst (headS.map V.str)) ∧ TrV H' v (.grp n bb ms) ∧ ∃ c3 c4 c7 c8 c9, σ' = [some (.ref a), some (.ref h), some (.ref b), c3, c4, some v, some (.str zt), c7, c8, c9]) ⟨A5.ex e5, y5.ex e5, e5 _ _ hb5, tv6, _, _, _, _, _, rfl⟩ ?_ ?_
  rotate_left
  · rintro σ' H6 ⟨A6, y6, hb6, tv6, c3, c4, c7, c8, c9, rfl⟩
    exact ⟨A6, y6, hb6, _, _, _, _, _, _, _, rfl⟩
  rintro j σ' H6 hj ⟨A6, y6, hb6, tv6, c3, c4, c7, c8, c9, rfl⟩
  refine q_asgP ?_
  refine ⟨_, rfl, ?_⟩
  refine q_forU ?_
  have go : ∀ (m : Int) (H7 : Hp), 0 ≤ m → m ≤ 3 → Hand H7 h l → Sy K H7 → H7 b = some (.lst (headS.map V.str)) → TrV H7 v (.grp n bb ms) → _ := fun m H7 m0 m3 A7 y7 hb7 tv7 => rng_turns (n := m.toNat) (g := gName 9) (tb := tAsg (tCall spSpoilt [] E0 (tCons (tVar 1) (tCons (tVar 8) (tCons (tVar 2) tNil)))) (gName 8)) (tz := tIfS (tTest (tOp rNe (tCB (rReprZ K) (tCons (tCall (spTold K) [] E0 (tCons (tVar 5) (tCons (tVar 8) tNil))) tNil)) (tCB (rReprZ K) (tCons (tCall (spDue90 K) [] E0 (tCons (tVar 5) (tCons (tVar 8) tNil))) tNil)))) (tRet (tC (V.bl false))) tNext)
      (D := { nx := fun σ' H' => Hand H' h l ∧ Sy K H' ∧ H' b = some (.lst (headS.map V.str)) ∧ TrV H' v (.grp n bb ms) ∧ ∃ c3 c4 c7 c8 c9, σ' = [some (.ref a), some (.ref h), some (.ref b), c3, c4, some v, some (.str zt), c7, c8, c9], rt := Q, bk := fun _ _ => True, ct := fun _ _ => True }) (σ := [some (.ref a), some (.ref h), some (.ref b), c3, c4, some v, some (.str zt), some (.int (0 + (j : Int))), some (.str zt), c9]) (H := H7)
      (fun k σ' H' => Hand H' h l ∧ Sy K H' ∧ H' b = some (.lst (headS.map V.str)) ∧ TrV H' v (.grp n bb ms) ∧ ∃ (z : Str) (c9 : Option V), σ' = [some (.ref a), some (.ref h), some (.ref b), c3, c4, some v, some (.str zt), some (.int (0 + (j : Int))), some (.str z), c9] ∧ z.length ≤ bdK k ∧ mz nlF z ≤ 130 + k) ⟨A7, y7, hb7, tv7, zt, c9, rfl, tl0, by omega⟩ (fun k σ' H8 hk hP => by
        obtain ⟨A8, y8, hb8, tv8, z, c9, rfl, z1, z2⟩ := hP
        have b1 := bdK_le k (by omega)
        refine s_asgP ?_
        refine ⟨_, rfl, _, rfl, _, rfl, h, l, b, z, headS, rfl, A8, hb8, bh, bl, by decide, by decide, head_ok, by omega, by omega, fun z' H9 A9 k9 g1 g2 => ?_⟩
        exact ⟨A9, y8.kp A8 k9, k9 b _ bh bl hb8, trv_tk (fun c zs e => kp_tup A8 k9 e) _ _ tv8, z', _, rfl, by show z'.length ≤ 2 * bdK k + 60; omega, by omega⟩) (fun σ' H8 hP => by
        obtain ⟨A8, y8, hb8, tv8, z, c9, rfl, z1, z2⟩ := hP
        have b1 := bdK_le m.toNat (by omega)
        have zl : z.length ≤ 30000 := by omega
        have rl : (Txt.split z "\n").length ≤ 140 := by
          have := nl_rows z
          omega
        have sh := dueB_shows (ys := ys) zl rl
        obtain ⟨dd, hdd⟩ : ∃ dd, dueB ys (.str z) = dd := ⟨_, rfl⟩
        rw [hdd] at sh
        refine s_ifP (tst_raw ?_)
        refine ⟨_, rfl, _, rfl, v, .str z, .str z, n, bb, ms, ys, rfl, Dx.str z, tv8, tok, by omega, by omega, tnd, tnm, hpm, hsd, fun z' hz' => by cases hz'; exact ⟨zl, rl⟩, fun u H9 e9 dy => ?_⟩
        rw [hdd] at dy
        refine ⟨u, dd, rfl, dy, sh, y8.ex e9, ?_⟩
        refine ⟨_, rfl, _, rfl, v, z, n, bb, ms, ys, rfl, trv_tk (TK.ex e9) _ _ tv8, tok, by omega, by omega, tnd, tnm, hpm, hsd, zl, rl, fun u2 H10 e10 dy2 => ?_⟩
        rw [hdd] at dy2
        refine ⟨u2, dd, rfl, dy2, sh, y8.ex (e9.trans e10), ?_⟩
        refine ⟨rfl, _, rfl, iteF' (by rw [decide_eq_true rfl]; rfl) ?_⟩
        have e := e9.trans e10
        exact nx_tn ⟨A8.ex e, y8.ex e, e _ _ hb8, trv_tk (TK.ex e) _ _ tv8, _, _, _, _, _, rfl⟩)
  refine if_raw (tst_raw ⟨_, rfl, _, _, rfl, rfl, _, rfl, ?_⟩)
  by_cases j0 : (0 : Int) < 0 + (j : Int)
  · refine iteT' (decide_eq_true j0) ?_
    refine ⟨_, rfl, (by show 4 ≤ sizeLine; decide), fun p hp => ?_⟩
    obtain ⟨ph, pl⟩ := A6.fresh hp
    have e7 := Ex.new (o := .lst [.int 1, .int 1, .int 2, .int 3]) hp
    refine of_list (E := E0) (A6.ex e7) upd_same ph pl (by simp) (by simp) fun v' H8 hv A8 k8 => ?_
    obtain ⟨m, rfl, m0, m3⟩ : ∃ m : Int, v' = .int m ∧ 0 ≤ m ∧ m ≤ 3 := by
      simp only [List.mem_cons, List.not_mem_nil, or_false] at hv
      rcases hv with rfl | rfl | rfl | rfl
      · exact ⟨_, rfl, by decide, by decide⟩
      · exact ⟨_, rfl, by decide, by decide⟩
      · exact ⟨_, rfl, by decide, by decide⟩
      · exact ⟨_, rfl, by decide, by decide⟩
    exact ⟨m, rfl, by omega, by omega, go m H8 m0 m3 A8 ((y6.ex e7).kp (A6.ex e7) k8) (k8 b _ bh bl (e7 _ _ hb6)) (trv_tk (fun c zs e => kp_tup (A6.ex e7) k8 (e7 _ _ e)) _ _ tv6)⟩
  · refine iteF' (decide_eq_false j0) ?_
    exact ⟨0, rfl, by decide, by decide, go 0 H6 (by decide) (by decide) A6 y6 hb6 tv6⟩
end
/-! ### the table of forms -/
theorem ktab6 {K : PySem.W.Frag} {w : World} {a : Addr} {e1 e2 e3 e4 e5 e6 : DictEntry} {n : Nat} {t1 t2 t3 t4 t5 t6 : Tok} {f1 f2 f3 f4 f5 f6 : Addr} (l : K.lookup a = some ⟨.type "dict", none, .dict #[e1, e2, e3, e4, e5, e6] n, #[]⟩)
    (kl : PySem.W.KeysLit w.params [e1, e2, e3, e4, e5, e6]) (low : (a == sysModules) = false) (k1 : e1.key = .str "take" t1) (k2 : e2.key = .str "try" t2) (k3 : e3.key = .str "let" t3) (k4 : e4.key = .str "say" t4) (k5 : e5.key = .str "goto" t5) (k6 : e6.key = .str "if" t6)
    (v1 : e1.val = .ref f1) (v2 : e2.val = .ref f2) (v3 : e3.val = .ref f3) (v4 : e4.val = .ref f4) (v5 : e5.val = .ref f5) (v6 : e6.val = .ref f6) :
    KTab K w a (fun z => if z = "take" then some (.ref f1) else if z = "try" then some (.ref f2) else if z = "let" then some (.ref f3) else if z = "say" then some (.ref f4) else if z = "goto" then some (.ref f5) else if z = "if" then some (.ref f6) else none) := by
  refine ⟨_, _, l, kl, low, fun z => ?_⟩
  have s : ∀ (x z : Str) (t : Tok), (Value.str x t).isStr z = decide (z = x) := fun x z t => by
    show (x == z) = decide (z = x)
    by_cases h : z = x
    · rw [h, decide_eq_true rfl, beq_self_eq_true]
    · rw [decide_eq_false h]
      exact beq_eq_false_iff_ne.mpr (Ne.symm h)
  unfold PySem.W.nsIn
  rw [l]
  simp only [List.find?_cons, List.find?_nil, k1, k2, k3, k4, k5, k6, s]
  by_cases n1 : z = "take"
  · rw [decide_eq_true n1, if_pos n1]
    show some (some e1.val) = some (some (.ref f1))
    rw [v1]
  by_cases n2 : z = "try"
  · rw [decide_eq_false n1, decide_eq_true n2, if_neg n1, if_pos n2]
    show some (some e2.val) = some (some (.ref f2))
    rw [v2]
  by_cases n3 : z = "let"
  · rw [decide_eq_false n1, decide_eq_false n2, decide_eq_true n3, if_neg n1, if_neg n2, if_pos n3]
    show some (some e3.val) = some (some (.ref f3))
    rw [v3]
  by_cases n4 : z = "say"
  · rw [decide_eq_false n1, decide_eq_false n2, decide_eq_false n3, decide_eq_true n4, if_neg n1, if_neg n2, if_neg n3, if_pos n4]
    show some (some e4.val) = some (some (.ref f4))
    rw [v4]
  by_cases n5 : z = "goto"
  · rw [decide_eq_false n1, decide_eq_false n2, decide_eq_false n3, decide_eq_false n4, decide_eq_true n5, if_neg n1, if_neg n2, if_neg n3, if_neg n4, if_pos n5]
    show some (some e5.val) = some (some (.ref f5))
    rw [v5]
  by_cases n6 : z = "if"
  · rw [decide_eq_false n1, decide_eq_false n2, decide_eq_false n3, decide_eq_false n4, decide_eq_false n5, decide_eq_true n6, if_neg n1, if_neg n2, if_neg n3, if_neg n4, if_neg n5, if_pos n6]
    show some (some e6.val) = some (some (.ref f6))
    rw [v6]
  rw [decide_eq_false n1, decide_eq_false n2, decide_eq_false n3, decide_eq_false n4, decide_eq_false n5, decide_eq_false n6, if_neg n1, if_neg n2, if_neg n3, if_neg n4, if_neg n5, if_neg n6]
  simp only [List.any_cons, List.any_nil, DictEntry.refKey, k1, k2, k3, k4, k5, k6]
  rfl
/-! ### the end -/
theorem ktab3 {K : PySem.W.Frag} {w : World} {a : Addr} {e1 e2 e3 : DictEntry} {n : Nat} {t1 t2 t3 : Tok} {f1 f2 f3 : Addr} (l : K.lookup a = some ⟨.type "dict", none, .dict #[e1, e2, e3] n, #[]⟩)
    (kl : PySem.W.KeysLit w.params [e1, e2, e3]) (low : (a == sysModules) = false) (k1 : e1.key = .str "NAME" t1) (k2 : e2.key = .str "N" t2) (k3 : e3.key = .str "M" t3) (v1 : e1.val = .ref f1) (v2 : e2.val = .ref f2) (v3 : e3.val = .ref f3) :
    KTab K w a (fun z => if z = "NAME" then some (.ref f1) else if z = "N" then some (.ref f2) else if z = "M" then some (.ref f3) else none) := by
  refine ⟨_, _, l, kl, low, fun z => ?_⟩
  have s : ∀ (x z : Str) (t : Tok), (Value.str x t).isStr z = decide (z = x) := fun x z t => by
    show (x == z) = decide (z = x)
    by_cases h : z = x
    · rw [h, decide_eq_true rfl, beq_self_eq_true]
    · rw [decide_eq_false h]
      exact beq_eq_false_iff_ne.mpr (Ne.symm h)
  unfold PySem.W.nsIn
  rw [l]
  simp only [List.find?_cons, List.find?_nil, k1, k2, k3, s]
  by_cases n1 : z = "NAME"
  · rw [decide_eq_true n1, if_pos n1]
    show some (some e1.val) = some (some (.ref f1))
    rw [v1]
  by_cases n2 : z = "N"
  · rw [decide_eq_false n1, decide_eq_true n2, if_neg n1, if_pos n2]
    show some (some e2.val) = some (some (.ref f2))
    rw [v2]
  by_cases n3 : z = "M"
  · rw [decide_eq_false n1, decide_eq_false n2, decide_eq_true n3, if_neg n1, if_neg n2, if_pos n3]
    show some (some e3.val) = some (some (.ref f3))
    rw [v3]
  rw [decide_eq_false n1, decide_eq_false n2, decide_eq_false n3, if_neg n1, if_neg n2, if_neg n3]
  simp only [List.any_cons, List.any_nil, DictEntry.refKey, k1, k2, k3]
  rfl
theorem sq_kt {K : PySem.W.Frag} {H : Hp} {a : Addr} {its : Array Value} {n : Nat} {xs : List V} (l : K.lookup a = some ⟨.type "tuple", none, .seq its n, #[]⟩) (hz : its.size ≤ 1000) (r : Vals xs its.toList) : SqT K H a xs := Or.inr ⟨_, its, n, l, rfl, rfl, Nat.le_trans hz (by decide), r⟩
theorem dy_BK {K : PySem.W.Frag} {aBK aBK0 aBK1 aBK2 aBK3 aBK4 aBK5 aBK6 aBK7 : Addr} {nBK nBK0 nBK1 nBK2 nBK3 nBK4 nBK5 nBK6 nBK7 : Nat} {tBK00 tBK01 tBK10 tBK20 tBK21 tBK30 tBK40 tBK50 tBK51 tBK60 tBK61 tBK70 tBK71 tBK72 : Tok} (lBK : K.lookup aBK = some ⟨.type "tuple", none, .seq #[.ref aBK0, .ref aBK1, .ref aBK2, .ref aBK3, .ref aBK4, .ref aBK5, .ref aBK6, .ref aBK7] nBK, #[]⟩) (lBK0 : K.lookup aBK0 = some ⟨.type "tuple", none, .seq #[.str "program" tBK00, .str "NAME" tBK01] nBK0, #[]⟩) (lBK1 : K.lookup aBK1 = some ⟨.type "tuple", none, .seq #[.str "take" tBK10] nBK1, #[]⟩) (lBK2 : K.lookup aBK2 = some ⟨.type "tuple", none, .seq #[.str "take" tBK20, .str "N" tBK21] nBK2, #[]⟩) (lBK3 : K.lookup aBK3 = some ⟨.type "tuple", none, .seq #[.str "try" tBK30] nBK3, #[]⟩) (lBK4 : K.lookup aBK4 = some ⟨.type "tuple", none, .seq #[.str "let" tBK40] nBK4, #[]⟩) (lBK5 : K.lookup aBK5 = some ⟨.type "tuple", none, .seq #[.str "say" tBK50, .str "N" tBK51] nBK5, #[]⟩) (lBK6 : K.lookup aBK6 = some ⟨.type "tuple", none, .seq #[.str "goto" tBK60, .str "N" tBK61] nBK6, #[]⟩) (lBK7 : K.lookup aBK7 = some ⟨.type "tuple", none, .seq #[.str "if" tBK70, .str "M" tBK71, .str "N" tBK72] nBK7, #[]⟩) (H : Hp) : Dy K H (.ref aBK) (formsD bookFs) :=
  .tup (sq_kt (xs := [V.ref aBK0, V.ref aBK1, V.ref aBK2, V.ref aBK3, V.ref aBK4, V.ref aBK5, V.ref aBK6, V.ref aBK7]) lBK (by simp) (.cons rfl (.cons rfl (.cons rfl (.cons rfl (.cons rfl (.cons rfl (.cons rfl (.cons rfl (.nil)))))))))) (.cons (.tup (sq_kt (xs := [V.str "program", V.str "NAME"]) lBK0 (by simp) (.cons ⟨_, rfl⟩ (.cons ⟨_, rfl⟩ (.nil)))) (dya_of_strs ["program", "NAME"])) (.cons (.tup (sq_kt (xs := [V.str "take"]) lBK1 (by simp) (.cons ⟨_, rfl⟩ (.nil))) (dya_of_strs ["take"])) (.cons (.tup (sq_kt (xs := [V.str "take", V.str "N"]) lBK2 (by simp) (.cons ⟨_, rfl⟩ (.cons ⟨_, rfl⟩ (.nil)))) (dya_of_strs ["take", "N"])) (.cons (.tup (sq_kt (xs := [V.str "try"]) lBK3 (by simp) (.cons ⟨_, rfl⟩ (.nil))) (dya_of_strs ["try"])) (.cons (.tup (sq_kt (xs := [V.str "let"]) lBK4 (by simp) (.cons ⟨_, rfl⟩ (.nil))) (dya_of_strs ["let"])) (.cons (.tup (sq_kt (xs := [V.str "say", V.str "N"]) lBK5 (by simp) (.cons ⟨_, rfl⟩ (.cons ⟨_, rfl⟩ (.nil)))) (dya_of_strs ["say", "N"])) (.cons (.tup (sq_kt (xs := [V.str "goto", V.str "N"]) lBK6 (by simp) (.cons ⟨_, rfl⟩ (.cons ⟨_, rfl⟩ (.nil)))) (dya_of_strs ["goto", "N"])) (.cons (.tup (sq_kt (xs := [V.str "if", V.str "M", V.str "N"]) lBK7 (by simp) (.cons ⟨_, rfl⟩ (.cons ⟨_, rfl⟩ (.cons ⟨_, rfl⟩ (.nil))))) (dya_of_strs ["if", "M", "N"])) (.nil)))))))))
theorem all_mk {l : PySem.W.OpenLaw} {w : World} {K : PySem.W.Frag} {h : Heap} {mg : Str → Option Value} {fa f0 f1 f2 f3 f4 f5 f6 f7 f8 f9 f10 f11 f12 f13 f14 f15 f16 f17 f18 f19 f20 f21 f22 f23 f24 f25 f26 f27 f28 f29 f30 f31 f32 f33 f34 f35 f36 f37 f38 f39 f40 f41 f42 f43 f44 f45 f46 f47 f48 f49 f50 f51 f52 f53 : Addr} {C_LockError : Addr} {C_NoName : Addr} {C_NoText : Addr} {C_NoPlan : Addr} {C_NoBook : Addr} {C_NoScript : Addr} {C_NoBounds : Addr} {C_NotWaiting : Addr} {C_Uneven : Addr} {C_NoStep : Addr} {C_TooMany : Addr} {C_Endless : Addr} {C_NoLine : Addr} {C_NoHouse : Addr} (X : K.In h) (G : h.Ns mainGlobals mg) (hfa : mg "law" = some (.ref fa))
    {od0 an0 od1 an1 od2 an2 od3 an3 od4 an4 od5 an5 od6 an6 od7 an7 od8 an8 od9 an9 od10 an10 od11 an11 od12 an12 od13 an13 od14 an14 od15 an15 od16 an16 od17 an17 od18 an18 od19 an19 od20 an20 od21 an21 od22 an22 od23 an23 od24 an24 od25 an25 od26 an26 od27 an27 od28 an28 od29 an29 od30 an30 od31 an31 od32 an32 od33 an33 od34 an34 od35 an35 od36 an36 od37 an37 od38 an38 od39 an39 od40 an40 od41 an41 od42 an42 od43 an43 od44 an44 od45 an45 od46 an46 od47 an47 od48 an48 od49 an49 od50 an50 od51 an51 od52 an52 od53 an53 : Option Addr} {sl0 sl1 sl2 sl3 sl4 sl5 sl6 sl7 sl8 sl9 sl10 sl11 sl12 sl13 sl14 sl15 sl16 sl17 sl18 sl19 sl20 sl21 sl22 sl23 sl24 sl25 sl26 sl27 sl28 sl29 sl30 sl31 sl32 sl33 sl34 sl35 sl36 sl37 sl38 sl39 sl40 sl41 sl42 sl43 sl44 sl45 sl46 sl47 sl48 sl49 sl50 sl51 sl52 sl53 : Array (Option Value)} {oc0 kV0 dc0 pm0 cd0 ct0 oc1 kV1 dc1 pm1 cd1 ct1 oc2 kV2 dc2 pm2 cd2 ct2 oc3 kV3 dc3 pm3 cd3 ct3 oc4 kV4 dc4 pm4 cd4 ct4 oc5 kV5 dc5 pm5 cd5 ct5 oc6 kV6 dc6 pm6 cd6 ct6 oc7 kV7 dc7 pm7 cd7 ct7 oc8 kV8 dc8 pm8 cd8 ct8 oc9 kV9 dc9 pm9 cd9 ct9 oc10 kV10 dc10 pm10 cd10 ct10 oc11 kV11 dc11 pm11 cd11 ct11 oc12 kV12 dc12 pm12 cd12 ct12 oc13 kV13 dc13 pm13 cd13 ct13 oc14 kV14 dc14 pm14 cd14 ct14 oc15 kV15 dc15 pm15 cd15 ct15 oc16 kV16 dc16 pm16 cd16 ct16 oc17 kV17 dc17 pm17 cd17 ct17 oc18 kV18 dc18 pm18 cd18 ct18 oc19 kV19 dc19 pm19 cd19 ct19 oc20 kV20 dc20 pm20 cd20 ct20 oc21 kV21 dc21 pm21 cd21 ct21 oc22 kV22 dc22 pm22 cd22 ct22 oc23 kV23 dc23 pm23 cd23 ct23 oc24 kV24 dc24 pm24 cd24 ct24 oc25 kV25 dc25 pm25 cd25 ct25 oc26 kV26 dc26 pm26 cd26 ct26 oc27 kV27 dc27 pm27 cd27 ct27 oc28 kV28 dc28 pm28 cd28 ct28 oc29 kV29 dc29 pm29 cd29 ct29 oc30 kV30 dc30 pm30 cd30 ct30 oc31 kV31 dc31 pm31 cd31 ct31 oc32 kV32 dc32 pm32 cd32 ct32 oc33 kV33 dc33 pm33 cd33 ct33 oc34 kV34 dc34 pm34 cd34 ct34 oc35 kV35 dc35 pm35 cd35 ct35 oc36 kV36 dc36 pm36 cd36 ct36 oc37 kV37 dc37 pm37 cd37 ct37 oc38 kV38 dc38 pm38 cd38 ct38 oc39 kV39 dc39 pm39 cd39 ct39 oc40 kV40 dc40 pm40 cd40 ct40 oc41 kV41 dc41 pm41 cd41 ct41 oc42 kV42 dc42 pm42 cd42 ct42 oc43 kV43 dc43 pm43 cd43 ct43 oc44 kV44 dc44 pm44 cd44 ct44 oc45 kV45 dc45 pm45 cd45 ct45 oc46 kV46 dc46 pm46 cd46 ct46 oc47 kV47 dc47 pm47 cd47 ct47 oc48 kV48 dc48 pm48 cd48 ct48 oc49 kV49 dc49 pm49 cd49 ct49 oc50 kV50 dc50 pm50 cd50 ct50 oc51 kV51 dc51 pm51 cd51 ct51 oc52 kV52 dc52 pm52 cd52 ct52 oc53 kV53 dc53 pm53 cd53 ct53 : Value}
    (aC_LockError : PySem.W.nsIn K mainGlobals "LockError" = some (some (.ref C_LockError))) (hg_LockError : PySem.W.findIn K (.ref C_LockError) "__getattribute__" = some (some (.builtin "BaseException.__getattribute__"))) (hk_LockError : PySem.W.findIn K (.ref C_LockError) "__getattr__" = some none) (hs_LockError : PySem.W.subIn K (.ref C_LockError) (.type "BaseException") = some true) (hd_LockError : PySem.W.hasDictIn K C_LockError = true) (ha_LockError : PySem.W.findIn K (.ref C_LockError) "__class__" = some (some (.builtin "object.__class__"))) (hn_LockError : PySem.W.specialIn K (.builtin "object.__class__") "__get__" = some (some (.builtin "getset_descriptor.__get__"))) (ht_LockError : PySem.W.takesIn K (.builtin "object.__class__") = some true) (hm_LockError : PySem.W.mroIn K C_LockError (.type "object") = some true) (kC_LockError : PySem.W.keepIn K (.ref C_LockError) = true) (tyC_LockError : PySem.W.typeIn K (.ref C_LockError) = some (.type "type")) (xp_LockError : PySem.W.excIn K C_LockError [.type "ValueError", .type "Exception", .type "BaseException", .type "object"] "ValueError.__new__" = true)
    (aC_NoName : PySem.W.nsIn K mainGlobals "NoName" = some (some (.ref C_NoName))) (hg_NoName : PySem.W.findIn K (.ref C_NoName) "__getattribute__" = some (some (.builtin "BaseException.__getattribute__"))) (hk_NoName : PySem.W.findIn K (.ref C_NoName) "__getattr__" = some none) (hs_NoName : PySem.W.subIn K (.ref C_NoName) (.type "BaseException") = some true) (hd_NoName : PySem.W.hasDictIn K C_NoName = true) (ha_NoName : PySem.W.findIn K (.ref C_NoName) "__class__" = some (some (.builtin "object.__class__"))) (hn_NoName : PySem.W.specialIn K (.builtin "object.__class__") "__get__" = some (some (.builtin "getset_descriptor.__get__"))) (ht_NoName : PySem.W.takesIn K (.builtin "object.__class__") = some true) (hm_NoName : PySem.W.mroIn K C_NoName (.type "object") = some true) (kC_NoName : PySem.W.keepIn K (.ref C_NoName) = true) (tyC_NoName : PySem.W.typeIn K (.ref C_NoName) = some (.type "type"))
    {nm_NoText qn_NoText : Str} {N_NoText : Addr} {bs_NoText bm_NoText : List Value} {sn_NoText : List Str} {sub_NoText : List Value} {ab_NoText : Bool} {col_NoText : Option Bool} {dd_NoText : Option Addr} {k0_NoText k1_NoText k2_NoText k3_NoText k5_NoText : Option Value}
    (aC_NoText : PySem.W.nsIn K mainGlobals "NoText" = some (some (.ref C_NoText))) (hg_NoText : PySem.W.findIn K (.ref C_NoText) "__getattribute__" = some (some (.builtin "BaseException.__getattribute__"))) (hk_NoText : PySem.W.findIn K (.ref C_NoText) "__getattr__" = some none) (hs_NoText : PySem.W.subIn K (.ref C_NoText) (.type "BaseException") = some true) (hd_NoText : PySem.W.hasDictIn K C_NoText = true) (ha_NoText : PySem.W.findIn K (.ref C_NoText) "__class__" = some (some (.builtin "object.__class__"))) (hn_NoText : PySem.W.specialIn K (.builtin "object.__class__") "__get__" = some (some (.builtin "getset_descriptor.__get__"))) (ht_NoText : PySem.W.takesIn K (.builtin "object.__class__") = some true) (hm_NoText : PySem.W.mroIn K C_NoText (.type "object") = some true) (kC_NoText : PySem.W.keepIn K (.ref C_NoText) = true) (tyC_NoText : PySem.W.typeIn K (.ref C_NoText) = some (.type "type")) (lx_NoText : K.lookup C_NoText = some (excClassObj nm_NoText qn_NoText C_NoText N_NoText bs_NoText bm_NoText true sn_NoText sub_NoText ab_NoText col_NoText dd_NoText k0_NoText k1_NoText k2_NoText k3_NoText k5_NoText "ValueError.__new__")) (rv_NoText : PySem.HandSPX.refsVE bm_NoText = true) (sa_NoText : PySem.W.findIn K (.ref C_NoText) "__setattr__" = some (some (.builtin "object.__setattr__"))) (ii_NoText : PySem.W.findIn K (.ref C_NoText) "__init__" = some (some (.ref f53))) (ti_NoText : PySem.W.typeIn K (.ref f53) = some (.type "function")) (na_NoText : PySem.W.findIn K (.ref C_NoText) "row" = some none)
    (aC_NoPlan : PySem.W.nsIn K mainGlobals "NoPlan" = some (some (.ref C_NoPlan))) (hg_NoPlan : PySem.W.findIn K (.ref C_NoPlan) "__getattribute__" = some (some (.builtin "BaseException.__getattribute__"))) (hk_NoPlan : PySem.W.findIn K (.ref C_NoPlan) "__getattr__" = some none) (hs_NoPlan : PySem.W.subIn K (.ref C_NoPlan) (.type "BaseException") = some true) (hd_NoPlan : PySem.W.hasDictIn K C_NoPlan = true) (ha_NoPlan : PySem.W.findIn K (.ref C_NoPlan) "__class__" = some (some (.builtin "object.__class__"))) (hn_NoPlan : PySem.W.specialIn K (.builtin "object.__class__") "__get__" = some (some (.builtin "getset_descriptor.__get__"))) (ht_NoPlan : PySem.W.takesIn K (.builtin "object.__class__") = some true) (hm_NoPlan : PySem.W.mroIn K C_NoPlan (.type "object") = some true) (kC_NoPlan : PySem.W.keepIn K (.ref C_NoPlan) = true) (tyC_NoPlan : PySem.W.typeIn K (.ref C_NoPlan) = some (.type "type")) (xp_NoPlan : PySem.W.excIn K C_NoPlan [.type "ValueError", .type "Exception", .type "BaseException", .type "object"] "ValueError.__new__" = true)
    (aC_NoBook : PySem.W.nsIn K mainGlobals "NoBook" = some (some (.ref C_NoBook))) (hg_NoBook : PySem.W.findIn K (.ref C_NoBook) "__getattribute__" = some (some (.builtin "BaseException.__getattribute__"))) (hk_NoBook : PySem.W.findIn K (.ref C_NoBook) "__getattr__" = some none) (hs_NoBook : PySem.W.subIn K (.ref C_NoBook) (.type "BaseException") = some true) (hd_NoBook : PySem.W.hasDictIn K C_NoBook = true) (ha_NoBook : PySem.W.findIn K (.ref C_NoBook) "__class__" = some (some (.builtin "object.__class__"))) (hn_NoBook : PySem.W.specialIn K (.builtin "object.__class__") "__get__" = some (some (.builtin "getset_descriptor.__get__"))) (ht_NoBook : PySem.W.takesIn K (.builtin "object.__class__") = some true) (hm_NoBook : PySem.W.mroIn K C_NoBook (.type "object") = some true) (kC_NoBook : PySem.W.keepIn K (.ref C_NoBook) = true) (tyC_NoBook : PySem.W.typeIn K (.ref C_NoBook) = some (.type "type")) (xp_NoBook : PySem.W.excIn K C_NoBook [.type "ValueError", .type "Exception", .type "BaseException", .type "object"] "ValueError.__new__" = true)
    (aC_NoScript : PySem.W.nsIn K mainGlobals "NoScript" = some (some (.ref C_NoScript))) (hg_NoScript : PySem.W.findIn K (.ref C_NoScript) "__getattribute__" = some (some (.builtin "BaseException.__getattribute__"))) (hk_NoScript : PySem.W.findIn K (.ref C_NoScript) "__getattr__" = some none) (hs_NoScript : PySem.W.subIn K (.ref C_NoScript) (.type "BaseException") = some true) (hd_NoScript : PySem.W.hasDictIn K C_NoScript = true) (ha_NoScript : PySem.W.findIn K (.ref C_NoScript) "__class__" = some (some (.builtin "object.__class__"))) (hn_NoScript : PySem.W.specialIn K (.builtin "object.__class__") "__get__" = some (some (.builtin "getset_descriptor.__get__"))) (ht_NoScript : PySem.W.takesIn K (.builtin "object.__class__") = some true) (hm_NoScript : PySem.W.mroIn K C_NoScript (.type "object") = some true) (kC_NoScript : PySem.W.keepIn K (.ref C_NoScript) = true) (tyC_NoScript : PySem.W.typeIn K (.ref C_NoScript) = some (.type "type")) (xp_NoScript : PySem.W.excIn K C_NoScript [.type "ValueError", .type "Exception", .type "BaseException", .type "object"] "ValueError.__new__" = true)
    (aC_NoBounds : PySem.W.nsIn K mainGlobals "NoBounds" = some (some (.ref C_NoBounds))) (hg_NoBounds : PySem.W.findIn K (.ref C_NoBounds) "__getattribute__" = some (some (.builtin "BaseException.__getattribute__"))) (hk_NoBounds : PySem.W.findIn K (.ref C_NoBounds) "__getattr__" = some none) (hs_NoBounds : PySem.W.subIn K (.ref C_NoBounds) (.type "BaseException") = some true) (hd_NoBounds : PySem.W.hasDictIn K C_NoBounds = true) (ha_NoBounds : PySem.W.findIn K (.ref C_NoBounds) "__class__" = some (some (.builtin "object.__class__"))) (hn_NoBounds : PySem.W.specialIn K (.builtin "object.__class__") "__get__" = some (some (.builtin "getset_descriptor.__get__"))) (ht_NoBounds : PySem.W.takesIn K (.builtin "object.__class__") = some true) (hm_NoBounds : PySem.W.mroIn K C_NoBounds (.type "object") = some true) (kC_NoBounds : PySem.W.keepIn K (.ref C_NoBounds) = true) (tyC_NoBounds : PySem.W.typeIn K (.ref C_NoBounds) = some (.type "type")) (xp_NoBounds : PySem.W.excIn K C_NoBounds [.type "ValueError", .type "Exception", .type "BaseException", .type "object"] "ValueError.__new__" = true)
    (aC_NotWaiting : PySem.W.nsIn K mainGlobals "NotWaiting" = some (some (.ref C_NotWaiting))) (hg_NotWaiting : PySem.W.findIn K (.ref C_NotWaiting) "__getattribute__" = some (some (.builtin "BaseException.__getattribute__"))) (hk_NotWaiting : PySem.W.findIn K (.ref C_NotWaiting) "__getattr__" = some none) (hs_NotWaiting : PySem.W.subIn K (.ref C_NotWaiting) (.type "BaseException") = some true) (hd_NotWaiting : PySem.W.hasDictIn K C_NotWaiting = true) (ha_NotWaiting : PySem.W.findIn K (.ref C_NotWaiting) "__class__" = some (some (.builtin "object.__class__"))) (hn_NotWaiting : PySem.W.specialIn K (.builtin "object.__class__") "__get__" = some (some (.builtin "getset_descriptor.__get__"))) (ht_NotWaiting : PySem.W.takesIn K (.builtin "object.__class__") = some true) (hm_NotWaiting : PySem.W.mroIn K C_NotWaiting (.type "object") = some true) (kC_NotWaiting : PySem.W.keepIn K (.ref C_NotWaiting) = true) (tyC_NotWaiting : PySem.W.typeIn K (.ref C_NotWaiting) = some (.type "type")) (xp_NotWaiting : PySem.W.excIn K C_NotWaiting [.type "ValueError", .type "Exception", .type "BaseException", .type "object"] "ValueError.__new__" = true)
    (aC_Uneven : PySem.W.nsIn K mainGlobals "Uneven" = some (some (.ref C_Uneven))) (hg_Uneven : PySem.W.findIn K (.ref C_Uneven) "__getattribute__" = some (some (.builtin "BaseException.__getattribute__"))) (hk_Uneven : PySem.W.findIn K (.ref C_Uneven) "__getattr__" = some none) (hs_Uneven : PySem.W.subIn K (.ref C_Uneven) (.type "BaseException") = some true) (hd_Uneven : PySem.W.hasDictIn K C_Uneven = true) (ha_Uneven : PySem.W.findIn K (.ref C_Uneven) "__class__" = some (some (.builtin "object.__class__"))) (hn_Uneven : PySem.W.specialIn K (.builtin "object.__class__") "__get__" = some (some (.builtin "getset_descriptor.__get__"))) (ht_Uneven : PySem.W.takesIn K (.builtin "object.__class__") = some true) (hm_Uneven : PySem.W.mroIn K C_Uneven (.type "object") = some true) (kC_Uneven : PySem.W.keepIn K (.ref C_Uneven) = true) (tyC_Uneven : PySem.W.typeIn K (.ref C_Uneven) = some (.type "type")) (xp_Uneven : PySem.W.excIn K C_Uneven [.type "ValueError", .type "Exception", .type "BaseException", .type "object"] "ValueError.__new__" = true)
    (aC_NoStep : PySem.W.nsIn K mainGlobals "NoStep" = some (some (.ref C_NoStep))) (hg_NoStep : PySem.W.findIn K (.ref C_NoStep) "__getattribute__" = some (some (.builtin "BaseException.__getattribute__"))) (hk_NoStep : PySem.W.findIn K (.ref C_NoStep) "__getattr__" = some none) (hs_NoStep : PySem.W.subIn K (.ref C_NoStep) (.type "BaseException") = some true) (hd_NoStep : PySem.W.hasDictIn K C_NoStep = true) (ha_NoStep : PySem.W.findIn K (.ref C_NoStep) "__class__" = some (some (.builtin "object.__class__"))) (hn_NoStep : PySem.W.specialIn K (.builtin "object.__class__") "__get__" = some (some (.builtin "getset_descriptor.__get__"))) (ht_NoStep : PySem.W.takesIn K (.builtin "object.__class__") = some true) (hm_NoStep : PySem.W.mroIn K C_NoStep (.type "object") = some true) (kC_NoStep : PySem.W.keepIn K (.ref C_NoStep) = true) (tyC_NoStep : PySem.W.typeIn K (.ref C_NoStep) = some (.type "type")) (xp_NoStep : PySem.W.excIn K C_NoStep [.type "ValueError", .type "Exception", .type "BaseException", .type "object"] "ValueError.__new__" = true)
    (aC_TooMany : PySem.W.nsIn K mainGlobals "TooMany" = some (some (.ref C_TooMany))) (hg_TooMany : PySem.W.findIn K (.ref C_TooMany) "__getattribute__" = some (some (.builtin "BaseException.__getattribute__"))) (hk_TooMany : PySem.W.findIn K (.ref C_TooMany) "__getattr__" = some none) (hs_TooMany : PySem.W.subIn K (.ref C_TooMany) (.type "BaseException") = some true) (hd_TooMany : PySem.W.hasDictIn K C_TooMany = true) (ha_TooMany : PySem.W.findIn K (.ref C_TooMany) "__class__" = some (some (.builtin "object.__class__"))) (hn_TooMany : PySem.W.specialIn K (.builtin "object.__class__") "__get__" = some (some (.builtin "getset_descriptor.__get__"))) (ht_TooMany : PySem.W.takesIn K (.builtin "object.__class__") = some true) (hm_TooMany : PySem.W.mroIn K C_TooMany (.type "object") = some true) (kC_TooMany : PySem.W.keepIn K (.ref C_TooMany) = true) (tyC_TooMany : PySem.W.typeIn K (.ref C_TooMany) = some (.type "type")) (xp_TooMany : PySem.W.excIn K C_TooMany [.type "ValueError", .type "Exception", .type "BaseException", .type "object"] "ValueError.__new__" = true)
    (aC_Endless : PySem.W.nsIn K mainGlobals "Endless" = some (some (.ref C_Endless))) (hg_Endless : PySem.W.findIn K (.ref C_Endless) "__getattribute__" = some (some (.builtin "BaseException.__getattribute__"))) (hk_Endless : PySem.W.findIn K (.ref C_Endless) "__getattr__" = some none) (hs_Endless : PySem.W.subIn K (.ref C_Endless) (.type "BaseException") = some true) (hd_Endless : PySem.W.hasDictIn K C_Endless = true) (ha_Endless : PySem.W.findIn K (.ref C_Endless) "__class__" = some (some (.builtin "object.__class__"))) (hn_Endless : PySem.W.specialIn K (.builtin "object.__class__") "__get__" = some (some (.builtin "getset_descriptor.__get__"))) (ht_Endless : PySem.W.takesIn K (.builtin "object.__class__") = some true) (hm_Endless : PySem.W.mroIn K C_Endless (.type "object") = some true) (kC_Endless : PySem.W.keepIn K (.ref C_Endless) = true) (tyC_Endless : PySem.W.typeIn K (.ref C_Endless) = some (.type "type")) (xp_Endless : PySem.W.excIn K C_Endless [.type "ValueError", .type "Exception", .type "BaseException", .type "object"] "ValueError.__new__" = true)
    (aC_NoLine : PySem.W.nsIn K mainGlobals "NoLine" = some (some (.ref C_NoLine))) (hg_NoLine : PySem.W.findIn K (.ref C_NoLine) "__getattribute__" = some (some (.builtin "BaseException.__getattribute__"))) (hk_NoLine : PySem.W.findIn K (.ref C_NoLine) "__getattr__" = some none) (hs_NoLine : PySem.W.subIn K (.ref C_NoLine) (.type "BaseException") = some true) (hd_NoLine : PySem.W.hasDictIn K C_NoLine = true) (ha_NoLine : PySem.W.findIn K (.ref C_NoLine) "__class__" = some (some (.builtin "object.__class__"))) (hn_NoLine : PySem.W.specialIn K (.builtin "object.__class__") "__get__" = some (some (.builtin "getset_descriptor.__get__"))) (ht_NoLine : PySem.W.takesIn K (.builtin "object.__class__") = some true) (hm_NoLine : PySem.W.mroIn K C_NoLine (.type "object") = some true) (kC_NoLine : PySem.W.keepIn K (.ref C_NoLine) = true) (tyC_NoLine : PySem.W.typeIn K (.ref C_NoLine) = some (.type "type")) (xp_NoLine : PySem.W.excIn K C_NoLine [.type "ValueError", .type "Exception", .type "BaseException", .type "object"] "ValueError.__new__" = true)
    (aC_NoHouse : PySem.W.nsIn K mainGlobals "NoHouse" = some (some (.ref C_NoHouse))) (hg_NoHouse : PySem.W.findIn K (.ref C_NoHouse) "__getattribute__" = some (some (.builtin "BaseException.__getattribute__"))) (hk_NoHouse : PySem.W.findIn K (.ref C_NoHouse) "__getattr__" = some none) (hs_NoHouse : PySem.W.subIn K (.ref C_NoHouse) (.type "BaseException") = some true) (hd_NoHouse : PySem.W.hasDictIn K C_NoHouse = true) (ha_NoHouse : PySem.W.findIn K (.ref C_NoHouse) "__class__" = some (some (.builtin "object.__class__"))) (hn_NoHouse : PySem.W.specialIn K (.builtin "object.__class__") "__get__" = some (some (.builtin "getset_descriptor.__get__"))) (ht_NoHouse : PySem.W.takesIn K (.builtin "object.__class__") = some true) (hm_NoHouse : PySem.W.mroIn K C_NoHouse (.type "object") = some true) (kC_NoHouse : PySem.W.keepIn K (.ref C_NoHouse) = true) (tyC_NoHouse : PySem.W.typeIn K (.ref C_NoHouse) = some (.type "type")) (xp_NoHouse : PySem.W.excIn K C_NoHouse [.type "ValueError", .type "Exception", .type "BaseException", .type "object"] "ValueError.__new__" = true)
    (sb_NoText_LockError : PySem.W.subIn K (.ref C_NoText) (.ref C_LockError) = some true)
    (sb_NoText_NoName : PySem.W.subIn K (.ref C_NoText) (.ref C_NoName) = some false)
    (sb_NoText_Endless : PySem.W.subIn K (.ref C_NoText) (.ref C_Endless) = some false)
    (sb_NoText_NoBook : PySem.W.subIn K (.ref C_NoText) (.ref C_NoBook) = some false)
    (sb_NoText_NoBounds : PySem.W.subIn K (.ref C_NoText) (.ref C_NoBounds) = some false)
    (sb_NoText_NoHouse : PySem.W.subIn K (.ref C_NoText) (.ref C_NoHouse) = some false)
    (sb_NoText_NoLine : PySem.W.subIn K (.ref C_NoText) (.ref C_NoLine) = some false)
    (sb_NoText_NoPlan : PySem.W.subIn K (.ref C_NoText) (.ref C_NoPlan) = some false)
    (sb_NoText_NoScript : PySem.W.subIn K (.ref C_NoText) (.ref C_NoScript) = some false)
    (sb_NoText_NoStep : PySem.W.subIn K (.ref C_NoText) (.ref C_NoStep) = some false)
    (sb_NoText_NotWaiting : PySem.W.subIn K (.ref C_NoText) (.ref C_NotWaiting) = some false)
    (sb_NoText_NoText : PySem.W.subIn K (.ref C_NoText) (.ref C_NoText) = some true)
    (sb_NoText_TooMany : PySem.W.subIn K (.ref C_NoText) (.ref C_TooMany) = some false)
    (sb_NoText_Uneven : PySem.W.subIn K (.ref C_NoText) (.ref C_Uneven) = some false)
    (sb_NoText_ValueError : PySem.W.subIn K (.ref C_NoText) (.type "ValueError") = some true)
    (sb_NoBook_LockError : PySem.W.subIn K (.ref C_NoBook) (.ref C_LockError) = some true)
    (sb_NoBook_NoName : PySem.W.subIn K (.ref C_NoBook) (.ref C_NoName) = some false)
    (sb_NoBook_Endless : PySem.W.subIn K (.ref C_NoBook) (.ref C_Endless) = some false)
    (sb_NoBook_NoBook : PySem.W.subIn K (.ref C_NoBook) (.ref C_NoBook) = some true)
    (sb_NoBook_NoBounds : PySem.W.subIn K (.ref C_NoBook) (.ref C_NoBounds) = some false)
    (sb_NoBook_NoHouse : PySem.W.subIn K (.ref C_NoBook) (.ref C_NoHouse) = some false)
    (sb_NoBook_NoLine : PySem.W.subIn K (.ref C_NoBook) (.ref C_NoLine) = some false)
    (sb_NoBook_NoPlan : PySem.W.subIn K (.ref C_NoBook) (.ref C_NoPlan) = some false)
    (sb_NoBook_NoScript : PySem.W.subIn K (.ref C_NoBook) (.ref C_NoScript) = some false)
    (sb_NoBook_NoStep : PySem.W.subIn K (.ref C_NoBook) (.ref C_NoStep) = some false)
    (sb_NoBook_NotWaiting : PySem.W.subIn K (.ref C_NoBook) (.ref C_NotWaiting) = some false)
    (sb_NoBook_NoText : PySem.W.subIn K (.ref C_NoBook) (.ref C_NoText) = some false)
    (sb_NoBook_TooMany : PySem.W.subIn K (.ref C_NoBook) (.ref C_TooMany) = some false)
    (sb_NoBook_Uneven : PySem.W.subIn K (.ref C_NoBook) (.ref C_Uneven) = some false)
    (sb_NoBook_ValueError : PySem.W.subIn K (.ref C_NoBook) (.type "ValueError") = some true)
    (a0 : PySem.W.nsIn K mainGlobals "is_letters" = some (some (.ref f0))) (l0 : K.lookup f0 = some ⟨oc0, od0, .func (PySem.W.fnOf "is_letters" "is_letters" (defArgs s_is_letters) (defBody s_is_letters) (defScope s_is_letters) .none kV0 dc0 pm0 an0 cd0 ct0), sl0⟩) (c0 : PySem.W.codeIn K cd0 "is_letters" = true) (k0 : PySem.W.keepIn K (.ref f0) = true)
    (a1 : PySem.W.nsIn K mainGlobals "is_number" = some (some (.ref f1))) (l1 : K.lookup f1 = some ⟨oc1, od1, .func (PySem.W.fnOf "is_number" "is_number" (defArgs s_is_number) (defBody s_is_number) (defScope s_is_number) .none kV1 dc1 pm1 an1 cd1 ct1), sl1⟩) (c1 : PySem.W.codeIn K cd1 "is_number" = true) (k1 : PySem.W.keepIn K (.ref f1) = true)
    (a2 : PySem.W.nsIn K mainGlobals "is_signed" = some (some (.ref f2))) (l2 : K.lookup f2 = some ⟨oc2, od2, .func (PySem.W.fnOf "is_signed" "is_signed" (defArgs s_is_signed) (defBody s_is_signed) (defScope s_is_signed) .none kV2 dc2 pm2 an2 cd2 ct2), sl2⟩) (c2 : PySem.W.codeIn K cd2 "is_signed" = true) (k2 : PySem.W.keepIn K (.ref f2) = true)
    (a3 : PySem.W.nsIn K mainGlobals "read_words" = some (some (.ref f3))) (l3 : K.lookup f3 = some ⟨oc3, od3, .func (PySem.W.fnOf "read_words" "read_words" (defArgs s_read_words) (defBody s_read_words) (defScope s_read_words) .none kV3 dc3 pm3 an3 cd3 ct3), sl3⟩) (c3 : PySem.W.codeIn K cd3 "read_words" = true) (k3 : PySem.W.keepIn K (.ref f3) = true)
    (a4 : PySem.W.nsIn K mainGlobals "has_form" = some (some (.ref f4))) (l4 : K.lookup f4 = some ⟨oc4, od4, .func (PySem.W.fnOf "has_form" "has_form" (defArgs s_has_form) (defBody s_has_form) (defScope s_has_form) .none kV4 dc4 pm4 an4 cd4 ct4), sl4⟩) (c4 : PySem.W.codeIn K cd4 "has_form" = true) (k4 : PySem.W.keepIn K (.ref f4) = true)
    (a5 : PySem.W.nsIn K mainGlobals "word_fits_forms" = some (some (.ref f5))) (l5 : K.lookup f5 = some ⟨oc5, od5, .func (PySem.W.fnOf "word_fits" "word_fits" (defArgs s_word_fits_forms) (defBody s_word_fits_forms) (defScope s_word_fits_forms) .none kV5 dc5 pm5 an5 cd5 ct5), sl5⟩) (c5 : PySem.W.codeIn K cd5 "word_fits" = true) (k5 : PySem.W.keepIn K (.ref f5) = true)
    (a6 : PySem.W.nsIn K mainGlobals "read_word" = some (some (.ref f6))) (l6 : K.lookup f6 = some ⟨oc6, od6, .func (PySem.W.fnOf "read_word" "read_word" (defArgs s_read_word) (defBody s_read_word) (defScope s_read_word) .none kV6 dc6 pm6 an6 cd6 ct6), sl6⟩) (c6 : PySem.W.codeIn K cd6 "read_word" = true) (k6 : PySem.W.keepIn K (.ref f6) = true)
    (a7 : PySem.W.nsIn K mainGlobals "is_whole" = some (some (.ref f7))) (l7 : K.lookup f7 = some ⟨oc7, od7, .func (PySem.W.fnOf "is_whole" "is_whole" (defArgs s_is_whole) (defBody s_is_whole) (defScope s_is_whole) .none kV7 dc7 pm7 an7 cd7 ct7), sl7⟩) (c7 : PySem.W.codeIn K cd7 "is_whole" = true) (k7 : PySem.W.keepIn K (.ref f7) = true)
    (a8 : PySem.W.nsIn K mainGlobals "is_whole_from" = some (some (.ref f8))) (l8 : K.lookup f8 = some ⟨oc8, od8, .func (PySem.W.fnOf "is_whole_from" "is_whole_from" (defArgs s_is_whole_from) (defBody s_is_whole_from) (defScope s_is_whole_from) .none kV8 dc8 pm8 an8 cd8 ct8), sl8⟩) (c8 : PySem.W.codeIn K cd8 "is_whole_from" = true) (k8 : PySem.W.keepIn K (.ref f8) = true)
    (a9 : PySem.W.nsIn K mainGlobals "is_tuple_of" = some (some (.ref f9))) (l9 : K.lookup f9 = some ⟨oc9, od9, .func (PySem.W.fnOf "is_tuple_of" "is_tuple_of" (defArgs s_is_tuple_of) (defBody s_is_tuple_of) (defScope s_is_tuple_of) .none kV9 dc9 pm9 an9 cd9 ct9), sl9⟩) (c9 : PySem.W.codeIn K cd9 "is_tuple_of" = true) (k9 : PySem.W.keepIn K (.ref f9) = true)
    (a10 : PySem.W.nsIn K mainGlobals "is_name" = some (some (.ref f10))) (l10 : K.lookup f10 = some ⟨oc10, od10, .func (PySem.W.fnOf "is_name" "is_name" (defArgs s_is_name) (defBody s_is_name) (defScope s_is_name) .none kV10 dc10 pm10 an10 cd10 ct10), sl10⟩) (c10 : PySem.W.codeIn K cd10 "is_name" = true) (k10 : PySem.W.keepIn K (.ref f10) = true)
    (a11 : PySem.W.nsIn K mainGlobals "is_plan" = some (some (.ref f11))) (l11 : K.lookup f11 = some ⟨oc11, od11, .func (PySem.W.fnOf "is_plan" "is_plan" (defArgs s_is_plan) (defBody s_is_plan) (defScope s_is_plan) .none kV11 dc11 pm11 an11 cd11 ct11), sl11⟩) (c11 : PySem.W.codeIn K cd11 "is_plan" = true) (k11 : PySem.W.keepIn K (.ref f11) = true)
    (a12 : PySem.W.nsIn K mainGlobals "member_fits" = some (some (.ref f12))) (l12 : K.lookup f12 = some ⟨oc12, od12, .func (PySem.W.fnOf "member_fits" "member_fits" (defArgs s_member_fits) (defBody s_member_fits) (defScope s_member_fits) .none kV12 dc12 pm12 an12 cd12 ct12), sl12⟩) (c12 : PySem.W.codeIn K cd12 "member_fits" = true) (k12 : PySem.W.keepIn K (.ref f12) = true)
    (a13 : PySem.W.nsIn K mainGlobals "has_group_form" = some (some (.ref f13))) (l13 : K.lookup f13 = some ⟨oc13, od13, .func (PySem.W.fnOf "has_group_form" "has_group_form" (defArgs s_has_group_form) (defBody s_has_group_form) (defScope s_has_group_form) .none kV13 dc13 pm13 an13 cd13 ct13), sl13⟩) (c13 : PySem.W.codeIn K cd13 "has_group_form" = true) (k13 : PySem.W.keepIn K (.ref f13) = true)
    (a14 : PySem.W.nsIn K mainGlobals "hands_of" = some (some (.ref f14))) (l14 : K.lookup f14 = some ⟨oc14, od14, .func (PySem.W.fnOf "hands_of" "hands_of" (defArgs s_hands_of) (defBody s_hands_of) (defScope s_hands_of) .none kV14 dc14 pm14 an14 cd14 ct14), sl14⟩) (c14 : PySem.W.codeIn K cd14 "hands_of" = true) (k14 : PySem.W.keepIn K (.ref f14) = true)
    (a15 : PySem.W.nsIn K mainGlobals "all_in" = some (some (.ref f15))) (l15 : K.lookup f15 = some ⟨oc15, od15, .func (PySem.W.fnOf "all_in" "all_in" (defArgs s_all_in) (defBody s_all_in) (defScope s_all_in) .none kV15 dc15 pm15 an15 cd15 ct15), sl15⟩) (c15 : PySem.W.codeIn K cd15 "all_in" = true) (k15 : PySem.W.keepIn K (.ref f15) = true)
    (a16 : PySem.W.nsIn K mainGlobals "all_from" = some (some (.ref f16))) (l16 : K.lookup f16 = some ⟨oc16, od16, .func (PySem.W.fnOf "all_from" "all_from" (defArgs s_all_from) (defBody s_all_from) (defScope s_all_from) .none kV16 dc16 pm16 an16 cd16 ct16), sl16⟩) (c16 : PySem.W.codeIn K cd16 "all_from" = true) (k16 : PySem.W.keepIn K (.ref f16) = true)
    (a17 : PySem.W.nsIn K mainGlobals "is_row_number" = some (some (.ref f17))) (l17 : K.lookup f17 = some ⟨oc17, od17, .func (PySem.W.fnOf "is_row_number" "is_row_number" (defArgs s_is_row_number) (defBody s_is_row_number) (defScope s_is_row_number) .none kV17 dc17 pm17 an17 cd17 ct17), sl17⟩) (c17 : PySem.W.codeIn K cd17 "is_row_number" = true) (k17 : PySem.W.keepIn K (.ref f17) = true)
    (a18 : PySem.W.nsIn K mainGlobals "word_fits_programs" = some (some (.ref f18))) (l18 : K.lookup f18 = some ⟨oc18, od18, .func (PySem.W.fnOf "word_fits" "word_fits" (defArgs s_word_fits_programs) (defBody s_word_fits_programs) (defScope s_word_fits_programs) .none kV18 dc18 pm18 an18 cd18 ct18), sl18⟩) (c18 : PySem.W.codeIn K cd18 "word_fits" = true) (k18 : PySem.W.keepIn K (.ref f18) = true)
    (a19 : PySem.W.nsIn K mainGlobals "take_fits" = some (some (.ref f19))) (l19 : K.lookup f19 = some ⟨oc19, od19, .func (PySem.W.fnOf "take_fits" "take_fits" (defArgs s_take_fits) (defBody s_take_fits) (defScope s_take_fits) .none kV19 dc19 pm19 an19 cd19 ct19), sl19⟩) (c19 : PySem.W.codeIn K cd19 "take_fits" = true) (k19 : PySem.W.keepIn K (.ref f19) = true)
    (a20 : PySem.W.nsIn K mainGlobals "say_fits" = some (some (.ref f20))) (l20 : K.lookup f20 = some ⟨oc20, od20, .func (PySem.W.fnOf "say_fits" "say_fits" (defArgs s_say_fits) (defBody s_say_fits) (defScope s_say_fits) .none kV20 dc20 pm20 an20 cd20 ct20), sl20⟩) (c20 : PySem.W.codeIn K cd20 "say_fits" = true) (k20 : PySem.W.keepIn K (.ref f20) = true)
    (a21 : PySem.W.nsIn K mainGlobals "goto_fits" = some (some (.ref f21))) (l21 : K.lookup f21 = some ⟨oc21, od21, .func (PySem.W.fnOf "goto_fits" "goto_fits" (defArgs s_goto_fits) (defBody s_goto_fits) (defScope s_goto_fits) .none kV21 dc21 pm21 an21 cd21 ct21), sl21⟩) (c21 : PySem.W.codeIn K cd21 "goto_fits" = true) (k21 : PySem.W.keepIn K (.ref f21) = true)
    (a22 : PySem.W.nsIn K mainGlobals "if_fits" = some (some (.ref f22))) (l22 : K.lookup f22 = some ⟨oc22, od22, .func (PySem.W.fnOf "if_fits" "if_fits" (defArgs s_if_fits) (defBody s_if_fits) (defScope s_if_fits) .none kV22 dc22 pm22 an22 cd22 ct22), sl22⟩) (c22 : PySem.W.codeIn K cd22 "if_fits" = true) (k22 : PySem.W.keepIn K (.ref f22) = true)
    (a23 : PySem.W.nsIn K mainGlobals "is_program" = some (some (.ref f23))) (l23 : K.lookup f23 = some ⟨oc23, od23, .func (PySem.W.fnOf "is_program" "is_program" (defArgs s_is_program) (defBody s_is_program) (defScope s_is_program) .none kV23 dc23 pm23 an23 cd23 ct23), sl23⟩) (c23 : PySem.W.codeIn K cd23 "is_program" = true) (k23 : PySem.W.keepIn K (.ref f23) = true)
    (a24 : PySem.W.nsIn K mainGlobals "row_fits" = some (some (.ref f24))) (l24 : K.lookup f24 = some ⟨oc24, od24, .func (PySem.W.fnOf "row_fits" "row_fits" (defArgs s_row_fits) (defBody s_row_fits) (defScope s_row_fits) .none kV24 dc24 pm24 an24 cd24 ct24), sl24⟩) (c24 : PySem.W.codeIn K cd24 "row_fits" = true) (k24 : PySem.W.keepIn K (.ref f24) = true)
    (a25 : PySem.W.nsIn K mainGlobals "is_book" = some (some (.ref f25))) (l25 : K.lookup f25 = some ⟨oc25, od25, .func (PySem.W.fnOf "is_book" "is_book" (defArgs s_is_book) (defBody s_is_book) (defScope s_is_book) .none kV25 dc25 pm25 an25 cd25 ct25), sl25⟩) (c25 : PySem.W.codeIn K cd25 "is_book" = true) (k25 : PySem.W.keepIn K (.ref f25) = true)
    (a26 : PySem.W.nsIn K mainGlobals "pair_fits" = some (some (.ref f26))) (l26 : K.lookup f26 = some ⟨oc26, od26, .func (PySem.W.fnOf "pair_fits" "pair_fits" (defArgs s_pair_fits) (defBody s_pair_fits) (defScope s_pair_fits) .none kV26 dc26 pm26 an26 cd26 ct26), sl26⟩) (c26 : PySem.W.codeIn K cd26 "pair_fits" = true) (k26 : PySem.W.keepIn K (.ref f26) = true)
    (a27 : PySem.W.nsIn K mainGlobals "rows_of" = some (some (.ref f27))) (l27 : K.lookup f27 = some ⟨oc27, od27, .func (PySem.W.fnOf "rows_of" "rows_of" (defArgs s_rows_of) (defBody s_rows_of) (defScope s_rows_of) .none kV27 dc27 pm27 an27 cd27 ct27), sl27⟩) (c27 : PySem.W.codeIn K cd27 "rows_of" = true) (k27 : PySem.W.keepIn K (.ref f27) = true)
    (a28 : PySem.W.nsIn K mainGlobals "read_book" = some (some (.ref f28))) (l28 : K.lookup f28 = some ⟨oc28, od28, .func (PySem.W.fnOf "read_book" "read_book" (defArgs s_read_book) (defBody s_read_book) (defScope s_read_book) .none kV28 dc28 pm28 an28 cd28 ct28), sl28⟩) (c28 : PySem.W.codeIn K cd28 "read_book" = true) (k28 : PySem.W.keepIn K (.ref f28) = true)
    (a29 : PySem.W.nsIn K mainGlobals "program_row" = some (some (.ref f29))) (l29 : K.lookup f29 = some ⟨oc29, od29, .func (PySem.W.fnOf "program_row" "program_row" (defArgs s_program_row) (defBody s_program_row) (defScope s_program_row) .none kV29 dc29 pm29 an29 cd29 ct29), sl29⟩) (c29 : PySem.W.codeIn K cd29 "program_row" = true) (k29 : PySem.W.keepIn K (.ref f29) = true)
    (a30 : PySem.W.nsIn K mainGlobals "_law_hand" = some (some (.ref f30))) (l30 : K.lookup f30 = some ⟨oc30, od30, .func (PySem.W.fnOf "_law_hand" "_law_hand" (defArgs s__law_hand) (defBody s__law_hand) (defScope s__law_hand) .none kV30 dc30 pm30 an30 cd30 ct30), sl30⟩) (c30 : PySem.W.codeIn K cd30 "_law_hand" = true) (k30 : PySem.W.keepIn K (.ref f30) = true)
    (a31 : PySem.W.nsIn K mainGlobals "_law_pick" = some (some (.ref f31))) (l31 : K.lookup f31 = some ⟨oc31, od31, .func (PySem.W.fnOf "_law_pick" "_law_pick" (defArgs s__law_pick) (defBody s__law_pick) (defScope s__law_pick) .none kV31 dc31 pm31 an31 cd31 ct31), sl31⟩) (c31 : PySem.W.codeIn K cd31 "_law_pick" = true) (k31 : PySem.W.keepIn K (.ref f31) = true)
    (a32 : PySem.W.nsIn K mainGlobals "_law_of" = some (some (.ref f32))) (l32 : K.lookup f32 = some ⟨oc32, od32, .func (PySem.W.fnOf "_law_of" "_law_of" (defArgs s__law_of) (defBody s__law_of) (defScope s__law_of) .none kV32 dc32 pm32 an32 cd32 ct32), sl32⟩) (c32 : PySem.W.codeIn K cd32 "_law_of" = true) (k32 : PySem.W.keepIn K (.ref f32) = true)
    (a33 : PySem.W.nsIn K mainGlobals "_law_names" = some (some (.ref f33))) (l33 : K.lookup f33 = some ⟨oc33, od33, .func (PySem.W.fnOf "_law_names" "_law_names" (defArgs s__law_names) (defBody s__law_names) (defScope s__law_names) .none kV33 dc33 pm33 an33 cd33 ct33), sl33⟩) (c33 : PySem.W.codeIn K cd33 "_law_names" = true) (k33 : PySem.W.keepIn K (.ref f33) = true)
    (a34 : PySem.W.nsIn K mainGlobals "_law_group" = some (some (.ref f34))) (l34 : K.lookup f34 = some ⟨oc34, od34, .func (PySem.W.fnOf "_law_group" "_law_group" (defArgs s__law_group) (defBody s__law_group) (defScope s__law_group) .none kV34 dc34 pm34 an34 cd34 ct34), sl34⟩) (c34 : PySem.W.codeIn K cd34 "_law_group" = true) (k34 : PySem.W.keepIn K (.ref f34) = true)
    (a35 : PySem.W.nsIn K mainGlobals "_law_sizes" = some (some (.ref f35))) (l35 : K.lookup f35 = some ⟨oc35, od35, .func (PySem.W.fnOf "_law_sizes" "_law_sizes" (defArgs s__law_sizes) (defBody s__law_sizes) (defScope s__law_sizes) .none kV35 dc35 pm35 an35 cd35 ct35), sl35⟩) (c35 : PySem.W.codeIn K cd35 "_law_sizes" = true) (k35 : PySem.W.keepIn K (.ref f35) = true)
    (a36 : PySem.W.nsIn K mainGlobals "_law_plan" = some (some (.ref f36))) (l36 : K.lookup f36 = some ⟨oc36, od36, .func (PySem.W.fnOf "_law_plan" "_law_plan" (defArgs s__law_plan) (defBody s__law_plan) (defScope s__law_plan) .none kV36 dc36 pm36 an36 cd36 ct36), sl36⟩) (c36 : PySem.W.codeIn K cd36 "_law_plan" = true) (k36 : PySem.W.keepIn K (.ref f36) = true)
    (a37 : PySem.W.nsIn K mainGlobals "_law_row" = some (some (.ref f37))) (l37 : K.lookup f37 = some ⟨oc37, od37, .func (PySem.W.fnOf "_law_row" "_law_row" (defArgs s__law_row) (defBody s__law_row) (defScope s__law_row) .none kV37 dc37 pm37 an37 cd37 ct37), sl37⟩) (c37 : PySem.W.codeIn K cd37 "_law_row" = true) (k37 : PySem.W.keepIn K (.ref f37) = true)
    (a38 : PySem.W.nsIn K mainGlobals "_law_program" = some (some (.ref f38))) (l38 : K.lookup f38 = some ⟨oc38, od38, .func (PySem.W.fnOf "_law_program" "_law_program" (defArgs s__law_program) (defBody s__law_program) (defScope s__law_program) .none kV38 dc38 pm38 an38 cd38 ct38), sl38⟩) (c38 : PySem.W.codeIn K cd38 "_law_program" = true) (k38 : PySem.W.keepIn K (.ref f38) = true)
    (a39 : PySem.W.nsIn K mainGlobals "_law_book" = some (some (.ref f39))) (l39 : K.lookup f39 = some ⟨oc39, od39, .func (PySem.W.fnOf "_law_book" "_law_book" (defArgs s__law_book) (defBody s__law_book) (defScope s__law_book) .none kV39 dc39 pm39 an39 cd39 ct39), sl39⟩) (c39 : PySem.W.codeIn K cd39 "_law_book" = true) (k39 : PySem.W.keepIn K (.ref f39) = true)
    (a40 : PySem.W.nsIn K mainGlobals "_law_hands" = some (some (.ref f40))) (l40 : K.lookup f40 = some ⟨oc40, od40, .func (PySem.W.fnOf "_law_hands" "_law_hands" (defArgs s__law_hands) (defBody s__law_hands) (defScope s__law_hands) .none kV40 dc40 pm40 an40 cd40 ct40), sl40⟩) (c40 : PySem.W.codeIn K cd40 "_law_hands" = true) (k40 : PySem.W.keepIn K (.ref f40) = true)
    (a41 : PySem.W.nsIn K mainGlobals "_law_book_text" = some (some (.ref f41))) (l41 : K.lookup f41 = some ⟨oc41, od41, .func (PySem.W.fnOf "_law_book_text" "_law_book_text" (defArgs s__law_book_text) (defBody s__law_book_text) (defScope s__law_book_text) .none kV41 dc41 pm41 an41 cd41 ct41), sl41⟩) (c41 : PySem.W.codeIn K cd41 "_law_book_text" = true) (k41 : PySem.W.keepIn K (.ref f41) = true)
    (a42 : PySem.W.nsIn K mainGlobals "_law_words_changed" = some (some (.ref f42))) (l42 : K.lookup f42 = some ⟨oc42, od42, .func (PySem.W.fnOf "_law_words_changed" "_law_words_changed" (defArgs s__law_words_changed) (defBody s__law_words_changed) (defScope s__law_words_changed) .none kV42 dc42 pm42 an42 cd42 ct42), sl42⟩) (c42 : PySem.W.codeIn K cd42 "_law_words_changed" = true) (k42 : PySem.W.keepIn K (.ref f42) = true)
    (a43 : PySem.W.nsIn K mainGlobals "_law_sign_changed" = some (some (.ref f43))) (l43 : K.lookup f43 = some ⟨oc43, od43, .func (PySem.W.fnOf "_law_sign_changed" "_law_sign_changed" (defArgs s__law_sign_changed) (defBody s__law_sign_changed) (defScope s__law_sign_changed) .none kV43 dc43 pm43 an43 cd43 ct43), sl43⟩) (c43 : PySem.W.codeIn K cd43 "_law_sign_changed" = true) (k43 : PySem.W.keepIn K (.ref f43) = true)
    (a44 : PySem.W.nsIn K mainGlobals "_law_spoilt" = some (some (.ref f44))) (l44 : K.lookup f44 = some ⟨oc44, od44, .func (PySem.W.fnOf "_law_spoilt" "_law_spoilt" (defArgs s__law_spoilt) (defBody s__law_spoilt) (defScope s__law_spoilt) .none kV44 dc44 pm44 an44 cd44 ct44), sl44⟩) (c44 : PySem.W.codeIn K cd44 "_law_spoilt" = true) (k44 : PySem.W.keepIn K (.ref f44) = true)
    (a45 : PySem.W.nsIn K mainGlobals "_law_count" = some (some (.ref f45))) (l45 : K.lookup f45 = some ⟨oc45, od45, .func (PySem.W.fnOf "_law_count" "_law_count" (defArgs s__law_count) (defBody s__law_count) (defScope s__law_count) .none kV45 dc45 pm45 an45 cd45 ct45), sl45⟩) (c45 : PySem.W.codeIn K cd45 "_law_count" = true) (k45 : PySem.W.keepIn K (.ref f45) = true)
    (a46 : PySem.W.nsIn K mainGlobals "_law_letters" = some (some (.ref f46))) (l46 : K.lookup f46 = some ⟨oc46, od46, .func (PySem.W.fnOf "_law_letters" "_law_letters" (defArgs s__law_letters) (defBody s__law_letters) (defScope s__law_letters) .none kV46 dc46 pm46 an46 cd46 ct46), sl46⟩) (c46 : PySem.W.codeIn K cd46 "_law_letters" = true) (k46 : PySem.W.keepIn K (.ref f46) = true)
    (a47 : PySem.W.nsIn K mainGlobals "_law_class" = some (some (.ref f47))) (l47 : K.lookup f47 = some ⟨oc47, od47, .func (PySem.W.fnOf "_law_class" "_law_class" (defArgs s__law_class) (defBody s__law_class) (defScope s__law_class) .none kV47 dc47 pm47 an47 cd47 ct47), sl47⟩) (c47 : PySem.W.codeIn K cd47 "_law_class" = true) (k47 : PySem.W.keepIn K (.ref f47) = true)
    (a48 : PySem.W.nsIn K mainGlobals "_law_told" = some (some (.ref f48))) (l48 : K.lookup f48 = some ⟨oc48, od48, .func (PySem.W.fnOf "_law_told" "_law_told" (defArgs s__law_told) (defBody s__law_told) (defScope s__law_told) .none kV48 dc48 pm48 an48 cd48 ct48), sl48⟩) (c48 : PySem.W.codeIn K cd48 "_law_told" = true) (k48 : PySem.W.keepIn K (.ref f48) = true)
    (a49 : PySem.W.nsIn K mainGlobals "_law_form" = some (some (.ref f49))) (l49 : K.lookup f49 = some ⟨oc49, od49, .func (PySem.W.fnOf "_law_form" "_law_form" (defArgs s__law_form) (defBody s__law_form) (defScope s__law_form) .none kV49 dc49 pm49 an49 cd49 ct49), sl49⟩) (c49 : PySem.W.codeIn K cd49 "_law_form" = true) (k49 : PySem.W.keepIn K (.ref f49) = true)
    (a50 : PySem.W.nsIn K mainGlobals "_law_due" = some (some (.ref f50))) (l50 : K.lookup f50 = some ⟨oc50, od50, .func (PySem.W.fnOf "_law_due" "_law_due" (defArgs s__law_due) (defBody s__law_due) (defScope s__law_due) .none kV50 dc50 pm50 an50 cd50 ct50), sl50⟩) (c50 : PySem.W.codeIn K cd50 "_law_due" = true) (k50 : PySem.W.keepIn K (.ref f50) = true)
    (a51 : PySem.W.nsIn K mainGlobals "_law_figures_right" = some (some (.ref f51))) (l51 : K.lookup f51 = some ⟨oc51, od51, .func (PySem.W.fnOf "_law_figures_right" "_law_figures_right" (defArgs s__law_figures_right) (defBody s__law_figures_right) (defScope s__law_figures_right) .none kV51 dc51 pm51 an51 cd51 ct51), sl51⟩) (c51 : PySem.W.codeIn K cd51 "_law_figures_right" = true) (k51 : PySem.W.keepIn K (.ref f51) = true)
    (a52 : PySem.W.nsIn K mainGlobals "law" = some (some (.ref f52))) (l52 : K.lookup f52 = some ⟨oc52, od52, .func (PySem.W.fnOf "law" "law" (defArgs s_law) (defBody s_law) (defScope s_law) .none kV52 dc52 pm52 an52 cd52 ct52), sl52⟩) (c52 : PySem.W.codeIn K cd52 "law" = true) (k52 : PySem.W.keepIn K (.ref f52) = true)
    (l53 : K.lookup f53 = some ⟨oc53, od53, .func (PySem.W.fnOf "__init__" "NoText.__init__" (defArgs s_NoText___init__) (defBody s_NoText___init__) (defScope s_NoText___init__) .none kV53 dc53 pm53 an53 cd53 ct53), sl53⟩) (c53 : PySem.W.codeIn K cd53 "NoText.__init__" = true) (k53 : PySem.W.keepIn K (.ref f53) = true)
    (z0 : PySem.W.nsIn K mainGlobals "ValueError" = some none)
    (z1 : PySem.W.nsIn K mainGlobals "all" = some none)
    (z2 : PySem.W.nsIn K mainGlobals "bool" = some none)
    (z3 : PySem.W.nsIn K mainGlobals "enumerate" = some none)
    (z4 : PySem.W.nsIn K mainGlobals "int" = some none)
    (z5 : PySem.W.nsIn K mainGlobals "isinstance" = some none)
    (z6 : PySem.W.nsIn K mainGlobals "len" = some none)
    (z7 : PySem.W.nsIn K mainGlobals "range" = some none)
    (z8 : PySem.W.nsIn K mainGlobals "repr" = some none)
    (z9 : PySem.W.nsIn K mainGlobals "sorted" = some none)
    (z10 : PySem.W.nsIn K mainGlobals "str" = some none)
    (z11 : PySem.W.nsIn K mainGlobals "tuple" = some none)
    (z12 : PySem.W.nsIn K mainGlobals "zip" = some none)
    {tM : Tok} (cM : PySem.W.nsIn K mainGlobals "MOST_SAID" = some (some (.int 99 tM))) {aF : Addr} {e1 e2 e3 e4 e5 e6 : DictEntry} {nF : Nat} {t1 t2 t3 t4 t5 t6 : Tok} (cF : PySem.W.nsIn K mainGlobals "FORMS" = some (some (.ref aF)))
    (lF : K.lookup aF = some ⟨.type "dict", none, .dict #[e1, e2, e3, e4, e5, e6] nF, #[]⟩) (kF : PySem.W.KeysLit w.params [e1, e2, e3, e4, e5, e6]) (lowF : (aF == sysModules) = false)
    (q1 : e1.key = .str "take" t1) (q2 : e2.key = .str "try" t2) (q3 : e3.key = .str "let" t3) (q4 : e4.key = .str "say" t4) (q5 : e5.key = .str "goto" t5) (q6 : e6.key = .str "if" t6)
    (v1 : e1.val = .ref f19) (v2 : e2.val = .ref f18) (v3 : e3.val = .ref f18) (v4 : e4.val = .ref f20) (v5 : e5.val = .ref f21) (v6 : e6.val = .ref f22) (nd : [f19, f18, f20, f21, f22].Nodup)
    {tL tN tB tG tQ : Tok} (cL : PySem.W.nsIn K mainGlobals "LETTERS" = some (some (.str "abcdefghijklmnopqrstuvwxyz" tL))) (cN : PySem.W.nsIn K mainGlobals "LONGEST_NAME" = some (some (.int 8 tN))) (cB : PySem.W.nsIn K mainGlobals "LEAST_BOUND" = some (some (.int 1 tB))) (cG : PySem.W.nsIn K mainGlobals "FIGURES" = some (some (.str "0123456789" tG))) (cQ : PySem.W.nsIn K mainGlobals "MOST_FIGURES" = some (some (.int 9 tQ)))
    {aK : Addr} {h1 h2 h3 : DictEntry} {nK : Nat} {w1 w2 w3 : Tok} (cK : PySem.W.nsIn K mainGlobals "KINDS" = some (some (.ref aK))) (lK : K.lookup aK = some ⟨.type "dict", none, .dict #[h1, h2, h3] nK, #[]⟩) (kK : PySem.W.KeysLit w.params [h1, h2, h3]) (lowK : (aK == sysModules) = false)
    (qh1 : h1.key = .str "NAME" w1) (qh2 : h2.key = .str "N" w2) (qh3 : h3.key = .str "M" w3) (vh1 : h1.val = .ref f0) (vh2 : h2.val = .ref f1) (vh3 : h3.val = .ref f2) (ndK : [f0, f1, f2].Nodup)
    {aBK aBK0 aBK1 aBK2 aBK3 aBK4 aBK5 aBK6 aBK7 : Addr} {nBK nBK0 nBK1 nBK2 nBK3 nBK4 nBK5 nBK6 nBK7 : Nat} {tBK00 tBK01 tBK10 tBK20 tBK21 tBK30 tBK40 tBK50 tBK51 tBK60 tBK61 tBK70 tBK71 tBK72 : Tok} (cBK : PySem.W.nsIn K mainGlobals "BOOK_ROWS" = some (some (.ref aBK))) (lBK : K.lookup aBK = some ⟨.type "tuple", none, .seq #[.ref aBK0, .ref aBK1, .ref aBK2, .ref aBK3, .ref aBK4, .ref aBK5, .ref aBK6, .ref aBK7] nBK, #[]⟩) (lBK0 : K.lookup aBK0 = some ⟨.type "tuple", none, .seq #[.str "program" tBK00, .str "NAME" tBK01] nBK0, #[]⟩) (lBK1 : K.lookup aBK1 = some ⟨.type "tuple", none, .seq #[.str "take" tBK10] nBK1, #[]⟩) (lBK2 : K.lookup aBK2 = some ⟨.type "tuple", none, .seq #[.str "take" tBK20, .str "N" tBK21] nBK2, #[]⟩) (lBK3 : K.lookup aBK3 = some ⟨.type "tuple", none, .seq #[.str "try" tBK30] nBK3, #[]⟩) (lBK4 : K.lookup aBK4 = some ⟨.type "tuple", none, .seq #[.str "let" tBK40] nBK4, #[]⟩) (lBK5 : K.lookup aBK5 = some ⟨.type "tuple", none, .seq #[.str "say" tBK50, .str "N" tBK51] nBK5, #[]⟩) (lBK6 : K.lookup aBK6 = some ⟨.type "tuple", none, .seq #[.str "goto" tBK60, .str "N" tBK61] nBK6, #[]⟩) (lBK7 : K.lookup aBK7 = some ⟨.type "tuple", none, .seq #[.str "if" tBK70, .str "M" tBK71, .str "N" tBK72] nBK7, #[]⟩) :
    ∃ fd : FuncData, (∀ (s : Shared) (v : Value), BindsTo s fd ⟨[v], []⟩ [("_law_script", v)]) ∧ ∀ base : Heap, K.In base → base.Ns mainGlobals mg → FnG l.prog w K mg base 19 fa fd ["_law_script"] (spLaw K) := by
  have e := hfa.symm.trans (PySem.W.mg_of X G a52)
  cases e
  refine ⟨PySem.W.fnOf "law" "law" (defArgs s_law) (defBody s_law) (defScope s_law) .none kV52 dc52 pm52 an52 cd52 ct52, fun s v => .of_eq rfl, fun base _ _ => ?_⟩
  exact ok_law (T := {
    C_LockError := C_LockError, xc_LockError := ⟨⟨hg_LockError, hk_LockError, hs_LockError, hd_LockError, ha_LockError, hn_LockError, ht_LockError, hm_LockError⟩, kC_LockError, tyC_LockError⟩, mc_LockError := PySem.W.mg_of X G aC_LockError,
    xp_LockError := xp_LockError,
    C_NoName := C_NoName, xc_NoName := ⟨⟨hg_NoName, hk_NoName, hs_NoName, hd_NoName, ha_NoName, hn_NoName, ht_NoName, hm_NoName⟩, kC_NoName, tyC_NoName⟩, mc_NoName := PySem.W.mg_of X G aC_NoName,
    C_NoText := C_NoText, xc_NoText := ⟨⟨hg_NoText, hk_NoText, hs_NoText, hd_NoText, ha_NoText, hn_NoText, ht_NoText, hm_NoText⟩, kC_NoText, tyC_NoText⟩, mc_NoText := PySem.W.mg_of X G aC_NoText,
    ox_NoText := ⟨⟨_, _, _, _, _, _, _, _, _, _, _, _, _, _, _, lx_NoText, rv_NoText⟩, sa_NoText, hs_NoText, tyC_NoText, kC_NoText⟩, ii_NoText := ii_NoText, ti_NoText := ti_NoText, na_NoText_row := na_NoText,
    C_NoPlan := C_NoPlan, xc_NoPlan := ⟨⟨hg_NoPlan, hk_NoPlan, hs_NoPlan, hd_NoPlan, ha_NoPlan, hn_NoPlan, ht_NoPlan, hm_NoPlan⟩, kC_NoPlan, tyC_NoPlan⟩, mc_NoPlan := PySem.W.mg_of X G aC_NoPlan,
    xp_NoPlan := xp_NoPlan,
    C_NoBook := C_NoBook, xc_NoBook := ⟨⟨hg_NoBook, hk_NoBook, hs_NoBook, hd_NoBook, ha_NoBook, hn_NoBook, ht_NoBook, hm_NoBook⟩, kC_NoBook, tyC_NoBook⟩, mc_NoBook := PySem.W.mg_of X G aC_NoBook,
    xp_NoBook := xp_NoBook,
    C_NoScript := C_NoScript, xc_NoScript := ⟨⟨hg_NoScript, hk_NoScript, hs_NoScript, hd_NoScript, ha_NoScript, hn_NoScript, ht_NoScript, hm_NoScript⟩, kC_NoScript, tyC_NoScript⟩, mc_NoScript := PySem.W.mg_of X G aC_NoScript,
    xp_NoScript := xp_NoScript,
    C_NoBounds := C_NoBounds, xc_NoBounds := ⟨⟨hg_NoBounds, hk_NoBounds, hs_NoBounds, hd_NoBounds, ha_NoBounds, hn_NoBounds, ht_NoBounds, hm_NoBounds⟩, kC_NoBounds, tyC_NoBounds⟩, mc_NoBounds := PySem.W.mg_of X G aC_NoBounds,
    xp_NoBounds := xp_NoBounds,
    C_NotWaiting := C_NotWaiting, xc_NotWaiting := ⟨⟨hg_NotWaiting, hk_NotWaiting, hs_NotWaiting, hd_NotWaiting, ha_NotWaiting, hn_NotWaiting, ht_NotWaiting, hm_NotWaiting⟩, kC_NotWaiting, tyC_NotWaiting⟩, mc_NotWaiting := PySem.W.mg_of X G aC_NotWaiting,
    xp_NotWaiting := xp_NotWaiting,
    C_Uneven := C_Uneven, xc_Uneven := ⟨⟨hg_Uneven, hk_Uneven, hs_Uneven, hd_Uneven, ha_Uneven, hn_Uneven, ht_Uneven, hm_Uneven⟩, kC_Uneven, tyC_Uneven⟩, mc_Uneven := PySem.W.mg_of X G aC_Uneven,
    xp_Uneven := xp_Uneven,
    C_NoStep := C_NoStep, xc_NoStep := ⟨⟨hg_NoStep, hk_NoStep, hs_NoStep, hd_NoStep, ha_NoStep, hn_NoStep, ht_NoStep, hm_NoStep⟩, kC_NoStep, tyC_NoStep⟩, mc_NoStep := PySem.W.mg_of X G aC_NoStep,
    xp_NoStep := xp_NoStep,
    C_TooMany := C_TooMany, xc_TooMany := ⟨⟨hg_TooMany, hk_TooMany, hs_TooMany, hd_TooMany, ha_TooMany, hn_TooMany, ht_TooMany, hm_TooMany⟩, kC_TooMany, tyC_TooMany⟩, mc_TooMany := PySem.W.mg_of X G aC_TooMany,
    xp_TooMany := xp_TooMany,
    C_Endless := C_Endless, xc_Endless := ⟨⟨hg_Endless, hk_Endless, hs_Endless, hd_Endless, ha_Endless, hn_Endless, ht_Endless, hm_Endless⟩, kC_Endless, tyC_Endless⟩, mc_Endless := PySem.W.mg_of X G aC_Endless,
    xp_Endless := xp_Endless,
    C_NoLine := C_NoLine, xc_NoLine := ⟨⟨hg_NoLine, hk_NoLine, hs_NoLine, hd_NoLine, ha_NoLine, hn_NoLine, ht_NoLine, hm_NoLine⟩, kC_NoLine, tyC_NoLine⟩, mc_NoLine := PySem.W.mg_of X G aC_NoLine,
    xp_NoLine := xp_NoLine,
    C_NoHouse := C_NoHouse, xc_NoHouse := ⟨⟨hg_NoHouse, hk_NoHouse, hs_NoHouse, hd_NoHouse, ha_NoHouse, hn_NoHouse, ht_NoHouse, hm_NoHouse⟩, kC_NoHouse, tyC_NoHouse⟩, mc_NoHouse := PySem.W.mg_of X G aC_NoHouse,
    xp_NoHouse := xp_NoHouse,
    sb_NoText_LockError := sb_NoText_LockError,
    sb_NoText_NoName := sb_NoText_NoName,
    sb_NoText_Endless := sb_NoText_Endless,
    sb_NoText_NoBook := sb_NoText_NoBook,
    sb_NoText_NoBounds := sb_NoText_NoBounds,
    sb_NoText_NoHouse := sb_NoText_NoHouse,
    sb_NoText_NoLine := sb_NoText_NoLine,
    sb_NoText_NoPlan := sb_NoText_NoPlan,
    sb_NoText_NoScript := sb_NoText_NoScript,
    sb_NoText_NoStep := sb_NoText_NoStep,
    sb_NoText_NotWaiting := sb_NoText_NotWaiting,
    sb_NoText_NoText := sb_NoText_NoText,
    sb_NoText_TooMany := sb_NoText_TooMany,
    sb_NoText_Uneven := sb_NoText_Uneven,
    sb_NoText_ValueError := sb_NoText_ValueError,
    sb_NoBook_LockError := sb_NoBook_LockError,
    sb_NoBook_NoName := sb_NoBook_NoName,
    sb_NoBook_Endless := sb_NoBook_Endless,
    sb_NoBook_NoBook := sb_NoBook_NoBook,
    sb_NoBook_NoBounds := sb_NoBook_NoBounds,
    sb_NoBook_NoHouse := sb_NoBook_NoHouse,
    sb_NoBook_NoLine := sb_NoBook_NoLine,
    sb_NoBook_NoPlan := sb_NoBook_NoPlan,
    sb_NoBook_NoScript := sb_NoBook_NoScript,
    sb_NoBook_NoStep := sb_NoBook_NoStep,
    sb_NoBook_NotWaiting := sb_NoBook_NotWaiting,
    sb_NoBook_NoText := sb_NoBook_NoText,
    sb_NoBook_TooMany := sb_NoBook_TooMany,
    sb_NoBook_Uneven := sb_NoBook_Uneven,
    sb_NoBook_ValueError := sb_NoBook_ValueError,
    f_is_letters := f0, d_is_letters := _, F_is_letters := fun_mk (st := s_is_letters) l0 c0 k0, m_is_letters := PySem.W.mg_of X G a0,
    f_is_number := f1, d_is_number := _, F_is_number := fun_mk (st := s_is_number) l1 c1 k1, m_is_number := PySem.W.mg_of X G a1,
    f_is_signed := f2, d_is_signed := _, F_is_signed := fun_mk (st := s_is_signed) l2 c2 k2, m_is_signed := PySem.W.mg_of X G a2,
    f_read_words := f3, d_read_words := _, F_read_words := fun_mk (st := s_read_words) l3 c3 k3, m_read_words := PySem.W.mg_of X G a3,
    f_has_form := f4, d_has_form := _, F_has_form := fun_mk (st := s_has_form) l4 c4 k4, m_has_form := PySem.W.mg_of X G a4,
    f_word_fits_forms := f5, d_word_fits_forms := _, F_word_fits_forms := fun_mk (st := s_word_fits_forms) l5 c5 k5, m_word_fits_forms := PySem.W.mg_of X G a5,
    f_read_word := f6, d_read_word := _, F_read_word := fun_mk (st := s_read_word) l6 c6 k6, m_read_word := PySem.W.mg_of X G a6,
    f_is_whole := f7, d_is_whole := _, F_is_whole := fun_mk (st := s_is_whole) l7 c7 k7, m_is_whole := PySem.W.mg_of X G a7,
    f_is_whole_from := f8, d_is_whole_from := _, F_is_whole_from := fun_mk (st := s_is_whole_from) l8 c8 k8, m_is_whole_from := PySem.W.mg_of X G a8,
    f_is_tuple_of := f9, d_is_tuple_of := _, F_is_tuple_of := fun_mk (st := s_is_tuple_of) l9 c9 k9, m_is_tuple_of := PySem.W.mg_of X G a9,
    f_is_name := f10, d_is_name := _, F_is_name := fun_mk (st := s_is_name) l10 c10 k10, m_is_name := PySem.W.mg_of X G a10,
    f_is_plan := f11, d_is_plan := _, F_is_plan := fun_mk (st := s_is_plan) l11 c11 k11, m_is_plan := PySem.W.mg_of X G a11,
    f_member_fits := f12, d_member_fits := _, F_member_fits := fun_mk (st := s_member_fits) l12 c12 k12, m_member_fits := PySem.W.mg_of X G a12,
    f_has_group_form := f13, d_has_group_form := _, F_has_group_form := fun_mk (st := s_has_group_form) l13 c13 k13, m_has_group_form := PySem.W.mg_of X G a13,
    f_hands_of := f14, d_hands_of := _, F_hands_of := fun_mk (st := s_hands_of) l14 c14 k14, m_hands_of := PySem.W.mg_of X G a14,
    f_all_in := f15, d_all_in := _, F_all_in := fun_mk (st := s_all_in) l15 c15 k15, m_all_in := PySem.W.mg_of X G a15,
    f_all_from := f16, d_all_from := _, F_all_from := fun_mk (st := s_all_from) l16 c16 k16, m_all_from := PySem.W.mg_of X G a16,
    f_is_row_number := f17, d_is_row_number := _, F_is_row_number := fun_mk (st := s_is_row_number) l17 c17 k17, m_is_row_number := PySem.W.mg_of X G a17,
    f_word_fits_programs := f18, d_word_fits_programs := _, F_word_fits_programs := fun_mk (st := s_word_fits_programs) l18 c18 k18, m_word_fits_programs := PySem.W.mg_of X G a18,
    f_take_fits := f19, d_take_fits := _, F_take_fits := fun_mk (st := s_take_fits) l19 c19 k19, m_take_fits := PySem.W.mg_of X G a19,
    f_say_fits := f20, d_say_fits := _, F_say_fits := fun_mk (st := s_say_fits) l20 c20 k20, m_say_fits := PySem.W.mg_of X G a20,
    f_goto_fits := f21, d_goto_fits := _, F_goto_fits := fun_mk (st := s_goto_fits) l21 c21 k21, m_goto_fits := PySem.W.mg_of X G a21,
    f_if_fits := f22, d_if_fits := _, F_if_fits := fun_mk (st := s_if_fits) l22 c22 k22, m_if_fits := PySem.W.mg_of X G a22,
    f_is_program := f23, d_is_program := _, F_is_program := fun_mk (st := s_is_program) l23 c23 k23, m_is_program := PySem.W.mg_of X G a23,
    f_row_fits := f24, d_row_fits := _, F_row_fits := fun_mk (st := s_row_fits) l24 c24 k24, m_row_fits := PySem.W.mg_of X G a24,
    f_is_book := f25, d_is_book := _, F_is_book := fun_mk (st := s_is_book) l25 c25 k25, m_is_book := PySem.W.mg_of X G a25,
    f_pair_fits := f26, d_pair_fits := _, F_pair_fits := fun_mk (st := s_pair_fits) l26 c26 k26, m_pair_fits := PySem.W.mg_of X G a26,
    f_rows_of := f27, d_rows_of := _, F_rows_of := fun_mk (st := s_rows_of) l27 c27 k27, m_rows_of := PySem.W.mg_of X G a27,
    f_read_book := f28, d_read_book := _, F_read_book := fun_mk (st := s_read_book) l28 c28 k28, m_read_book := PySem.W.mg_of X G a28,
    f_program_row := f29, d_program_row := _, F_program_row := fun_mk (st := s_program_row) l29 c29 k29, m_program_row := PySem.W.mg_of X G a29,
    f__law_hand := f30, d__law_hand := _, F__law_hand := fun_mk (st := s__law_hand) l30 c30 k30, m__law_hand := PySem.W.mg_of X G a30,
    f__law_pick := f31, d__law_pick := _, F__law_pick := fun_mk (st := s__law_pick) l31 c31 k31, m__law_pick := PySem.W.mg_of X G a31,
    f__law_of := f32, d__law_of := _, F__law_of := fun_mk (st := s__law_of) l32 c32 k32, m__law_of := PySem.W.mg_of X G a32,
    f__law_names := f33, d__law_names := _, F__law_names := fun_mk (st := s__law_names) l33 c33 k33, m__law_names := PySem.W.mg_of X G a33,
    f__law_group := f34, d__law_group := _, F__law_group := fun_mk (st := s__law_group) l34 c34 k34, m__law_group := PySem.W.mg_of X G a34,
    f__law_sizes := f35, d__law_sizes := _, F__law_sizes := fun_mk (st := s__law_sizes) l35 c35 k35, m__law_sizes := PySem.W.mg_of X G a35,
    f__law_plan := f36, d__law_plan := _, F__law_plan := fun_mk (st := s__law_plan) l36 c36 k36, m__law_plan := PySem.W.mg_of X G a36,
    f__law_row := f37, d__law_row := _, F__law_row := fun_mk (st := s__law_row) l37 c37 k37, m__law_row := PySem.W.mg_of X G a37,
    f__law_program := f38, d__law_program := _, F__law_program := fun_mk (st := s__law_program) l38 c38 k38, m__law_program := PySem.W.mg_of X G a38,
    f__law_book := f39, d__law_book := _, F__law_book := fun_mk (st := s__law_book) l39 c39 k39, m__law_book := PySem.W.mg_of X G a39,
    f__law_hands := f40, d__law_hands := _, F__law_hands := fun_mk (st := s__law_hands) l40 c40 k40, m__law_hands := PySem.W.mg_of X G a40,
    f__law_book_text := f41, d__law_book_text := _, F__law_book_text := fun_mk (st := s__law_book_text) l41 c41 k41, m__law_book_text := PySem.W.mg_of X G a41,
    f__law_words_changed := f42, d__law_words_changed := _, F__law_words_changed := fun_mk (st := s__law_words_changed) l42 c42 k42, m__law_words_changed := PySem.W.mg_of X G a42,
    f__law_sign_changed := f43, d__law_sign_changed := _, F__law_sign_changed := fun_mk (st := s__law_sign_changed) l43 c43 k43, m__law_sign_changed := PySem.W.mg_of X G a43,
    f__law_spoilt := f44, d__law_spoilt := _, F__law_spoilt := fun_mk (st := s__law_spoilt) l44 c44 k44, m__law_spoilt := PySem.W.mg_of X G a44,
    f__law_count := f45, d__law_count := _, F__law_count := fun_mk (st := s__law_count) l45 c45 k45, m__law_count := PySem.W.mg_of X G a45,
    f__law_letters := f46, d__law_letters := _, F__law_letters := fun_mk (st := s__law_letters) l46 c46 k46, m__law_letters := PySem.W.mg_of X G a46,
    f__law_class := f47, d__law_class := _, F__law_class := fun_mk (st := s__law_class) l47 c47 k47, m__law_class := PySem.W.mg_of X G a47,
    f__law_told := f48, d__law_told := _, F__law_told := fun_mk (st := s__law_told) l48 c48 k48, m__law_told := PySem.W.mg_of X G a48,
    f__law_form := f49, d__law_form := _, F__law_form := fun_mk (st := s__law_form) l49 c49 k49, m__law_form := PySem.W.mg_of X G a49,
    f__law_due := f50, d__law_due := _, F__law_due := fun_mk (st := s__law_due) l50 c50 k50, m__law_due := PySem.W.mg_of X G a50,
    f__law_figures_right := f51, d__law_figures_right := _, F__law_figures_right := fun_mk (st := s__law_figures_right) l51 c51 k51, m__law_figures_right := PySem.W.mg_of X G a51,
    f_law := fa, d_law := _, F_law := fun_mk (st := s_law) l52 c52 k52, m_law := PySem.W.mg_of X G a52,
    f_NoText___init__ := f53, d_NoText___init__ := _, F_NoText___init__ := fun_mk (st := s_NoText___init__) l53 c53 k53,
    z_ValueError := PySem.W.mg_none_of X G z0,
    z_all := PySem.W.mg_none_of X G z1,
    z_bool := PySem.W.mg_none_of X G z2,
    z_enumerate := PySem.W.mg_none_of X G z3,
    z_int := PySem.W.mg_none_of X G z4,
    z_isinstance := PySem.W.mg_none_of X G z5,
    z_len := PySem.W.mg_none_of X G z6,
    z_range := PySem.W.mg_none_of X G z7,
    z_repr := PySem.W.mg_none_of X G z8,
    z_sorted := PySem.W.mg_none_of X G z9,
    z_str := PySem.W.mg_none_of X G z10,
    z_tuple := PySem.W.mg_none_of X G z11,
    z_zip := PySem.W.mg_none_of X G z12,
    t_LETTERS := tL, c_LETTERS := PySem.W.mg_of X G cL, t_LONGEST := tN, c_LONGEST := PySem.W.mg_of X G cN, t_LEAST := tB, c_LEAST := PySem.W.mg_of X G cB, t_FIGURES := tG, c_FIGURES := PySem.W.mg_of X G cG, t_MOSTF := tQ, c_MOSTF := PySem.W.mg_of X G cQ, a_KINDS := aK, c_KINDS := PySem.W.mg_of X G cK, D_KINDS := ktab3 lK kK lowK qh1 qh2 qh3 vh1 vh2 vh3, ndK := ndK,
    a_BOOK := aBK, c_BOOK := PySem.W.mg_of X G cBK, D_BOOK := dy_BK lBK lBK0 lBK1 lBK2 lBK3 lBK4 lBK5 lBK6 lBK7,
    t_MOST_SAID := tM, c_MOST_SAID := PySem.W.mg_of X G cM, a_FORMS := aF, c_FORMS := PySem.W.mg_of X G cF, D_FORMS := ktab6 lF kF lowF q1 q2 q3 q4 q5 q6 v1 v2 v3 v4 v5 v6, nd := nd
    })
end K90
open PySem PySem.W PyProof.Rows
set_option maxRecDepth 100000 in
set_option maxHeartbeats 0 in
theorem PySem.Challenge.cw_nearlocks_k90_book_texts_spoilt_anywhere_holds : PySem.Challenge.rw_nearlocks_k90_book_texts_spoilt_anywhere.Holds := by
  w_on; o_law; k_head; (case hw => w_witness2)
  k_fill
  refine NL.walk_y (l := PySem.Challenge.rw_nearlocks_k90_book_texts_spoilt_anywhere) (n := 63) (k := 19) (x := "_law_script") (sp := K90.spLaw) rfl (by decide) rfl (by decide +kernel) ⟨rfl, by decide, by decide⟩ (fun w h Y => PySem.W.kIn_of Y) ?F ?P
  case P =>
    intro K H a ns hl hy hS
    exact ⟨a, ns, rfl, hS, hl, hy, fun _ => rfl⟩
  case F =>
    intro w mg fa h KX G hmg
    refine' K90.all_mk KX G hmg ?aC_LockError ?hg_LockError ?hk_LockError ?hs_LockError ?hd_LockError ?ha_LockError ?hn_LockError ?ht_LockError ?hm_LockError ?kC_LockError ?tyC_LockError ?xp_LockError ?aC_NoName ?hg_NoName ?hk_NoName ?hs_NoName ?hd_NoName ?ha_NoName ?hn_NoName ?ht_NoName ?hm_NoName ?kC_NoName ?tyC_NoName ?aC_NoText ?hg_NoText ?hk_NoText ?hs_NoText ?hd_NoText ?ha_NoText ?hn_NoText ?ht_NoText ?hm_NoText ?kC_NoText ?tyC_NoText ?lx_NoText ?rv_NoText ?sa_NoText ?ii_NoText ?ti_NoText ?na_NoText ?aC_NoPlan ?hg_NoPlan ?hk_NoPlan ?hs_NoPlan ?hd_NoPlan ?ha_NoPlan ?hn_NoPlan ?ht_NoPlan ?hm_NoPlan ?kC_NoPlan ?tyC_NoPlan ?xp_NoPlan ?aC_NoBook ?hg_NoBook ?hk_NoBook ?hs_NoBook ?hd_NoBook ?ha_NoBook ?hn_NoBook ?ht_NoBook ?hm_NoBook ?kC_NoBook ?tyC_NoBook ?xp_NoBook ?aC_NoScript ?hg_NoScript ?hk_NoScript ?hs_NoScript ?hd_NoScript ?ha_NoScript ?hn_NoScript ?ht_NoScript ?hm_NoScript ?kC_NoScript ?tyC_NoScript ?xp_NoScript ?aC_NoBounds ?hg_NoBounds ?hk_NoBounds ?hs_NoBounds ?hd_NoBounds ?ha_NoBounds ?hn_NoBounds ?ht_NoBounds ?hm_NoBounds ?kC_NoBounds ?tyC_NoBounds ?xp_NoBounds ?aC_NotWaiting ?hg_NotWaiting ?hk_NotWaiting ?hs_NotWaiting ?hd_NotWaiting ?ha_NotWaiting ?hn_NotWaiting ?ht_NotWaiting ?hm_NotWaiting ?kC_NotWaiting ?tyC_NotWaiting ?xp_NotWaiting ?aC_Uneven ?hg_Uneven ?hk_Uneven ?hs_Uneven ?hd_Uneven ?ha_Uneven ?hn_Uneven ?ht_Uneven ?hm_Uneven ?kC_Uneven ?tyC_Uneven ?xp_Uneven ?aC_NoStep ?hg_NoStep ?hk_NoStep ?hs_NoStep ?hd_NoStep ?ha_NoStep ?hn_NoStep ?ht_NoStep ?hm_NoStep ?kC_NoStep ?tyC_NoStep ?xp_NoStep ?aC_TooMany ?hg_TooMany ?hk_TooMany ?hs_TooMany ?hd_TooMany ?ha_TooMany ?hn_TooMany ?ht_TooMany ?hm_TooMany ?kC_TooMany ?tyC_TooMany ?xp_TooMany ?aC_Endless ?hg_Endless ?hk_Endless ?hs_Endless ?hd_Endless ?ha_Endless ?hn_Endless ?ht_Endless ?hm_Endless ?kC_Endless ?tyC_Endless ?xp_Endless ?aC_NoLine ?hg_NoLine ?hk_NoLine ?hs_NoLine ?hd_NoLine ?ha_NoLine ?hn_NoLine ?ht_NoLine ?hm_NoLine ?kC_NoLine ?tyC_NoLine ?xp_NoLine ?aC_NoHouse ?hg_NoHouse ?hk_NoHouse ?hs_NoHouse ?hd_NoHouse ?ha_NoHouse ?hn_NoHouse ?ht_NoHouse ?hm_NoHouse ?kC_NoHouse ?tyC_NoHouse ?xp_NoHouse ?sb_NoText_LockError ?sb_NoText_NoName ?sb_NoText_Endless ?sb_NoText_NoBook ?sb_NoText_NoBounds ?sb_NoText_NoHouse ?sb_NoText_NoLine ?sb_NoText_NoPlan ?sb_NoText_NoScript ?sb_NoText_NoStep ?sb_NoText_NotWaiting ?sb_NoText_NoText ?sb_NoText_TooMany ?sb_NoText_Uneven ?sb_NoText_ValueError ?sb_NoBook_LockError ?sb_NoBook_NoName ?sb_NoBook_Endless ?sb_NoBook_NoBook ?sb_NoBook_NoBounds ?sb_NoBook_NoHouse ?sb_NoBook_NoLine ?sb_NoBook_NoPlan ?sb_NoBook_NoScript ?sb_NoBook_NoStep ?sb_NoBook_NotWaiting ?sb_NoBook_NoText ?sb_NoBook_TooMany ?sb_NoBook_Uneven ?sb_NoBook_ValueError ?a0 ?l0 ?c0 ?k0 ?a1 ?l1 ?c1 ?k1 ?a2 ?l2 ?c2 ?k2 ?a3 ?l3 ?c3 ?k3 ?a4 ?l4 ?c4 ?k4 ?a5 ?l5 ?c5 ?k5 ?a6 ?l6 ?c6 ?k6 ?a7 ?l7 ?c7 ?k7 ?a8 ?l8 ?c8 ?k8 ?a9 ?l9 ?c9 ?k9 ?a10 ?l10 ?c10 ?k10 ?a11 ?l11 ?c11 ?k11 ?a12 ?l12 ?c12 ?k12 ?a13 ?l13 ?c13 ?k13 ?a14 ?l14 ?c14 ?k14 ?a15 ?l15 ?c15 ?k15 ?a16 ?l16 ?c16 ?k16 ?a17 ?l17 ?c17 ?k17 ?a18 ?l18 ?c18 ?k18 ?a19 ?l19 ?c19 ?k19 ?a20 ?l20 ?c20 ?k20 ?a21 ?l21 ?c21 ?k21 ?a22 ?l22 ?c22 ?k22 ?a23 ?l23 ?c23 ?k23 ?a24 ?l24 ?c24 ?k24 ?a25 ?l25 ?c25 ?k25 ?a26 ?l26 ?c26 ?k26 ?a27 ?l27 ?c27 ?k27 ?a28 ?l28 ?c28 ?k28 ?a29 ?l29 ?c29 ?k29 ?a30 ?l30 ?c30 ?k30 ?a31 ?l31 ?c31 ?k31 ?a32 ?l32 ?c32 ?k32 ?a33 ?l33 ?c33 ?k33 ?a34 ?l34 ?c34 ?k34 ?a35 ?l35 ?c35 ?k35 ?a36 ?l36 ?c36 ?k36 ?a37 ?l37 ?c37 ?k37 ?a38 ?l38 ?c38 ?k38 ?a39 ?l39 ?c39 ?k39 ?a40 ?l40 ?c40 ?k40 ?a41 ?l41 ?c41 ?k41 ?a42 ?l42 ?c42 ?k42 ?a43 ?l43 ?c43 ?k43 ?a44 ?l44 ?c44 ?k44 ?a45 ?l45 ?c45 ?k45 ?a46 ?l46 ?c46 ?k46 ?a47 ?l47 ?c47 ?k47 ?a48 ?l48 ?c48 ?k48 ?a49 ?l49 ?c49 ?k49 ?a50 ?l50 ?c50 ?k50 ?a51 ?l51 ?c51 ?k51 ?a52 ?l52 ?c52 ?k52 ?l53 ?c53 ?k53 ?z0 ?z1 ?z2 ?z3 ?z4 ?z5 ?z6 ?z7 ?z8 ?z9 ?z10 ?z11 ?z12 ?cM ?cF ?lF ?kF ?lowF ?q1 ?q2 ?q3 ?q4 ?q5 ?q6 ?v1 ?v2 ?v3 ?v4 ?v5 ?v6 ?nd ?cL ?cN ?cB ?cG ?cQ ?cK ?lK ?kK ?lowK ?qh1 ?qh2 ?qh3 ?vh1 ?vh2 ?vh3 ?ndK ?cBK ?lBK ?lBK0 ?lBK1 ?lBK2 ?lBK3 ?lBK4 ?lBK5 ?lBK6 ?lBK7
    (case aC_LockError => k_is); (case hg_LockError => k_is); (case hk_LockError => k_is); (case hs_LockError => k_is); (case hd_LockError => k_is); (case ha_LockError => k_is); (case hn_LockError => k_is); (case ht_LockError => k_is); (case hm_LockError => k_is); (case kC_LockError => k_is); (case tyC_LockError => k_is); (case xp_LockError => k_exc)
    (case aC_NoName => k_is); (case hg_NoName => k_is); (case hk_NoName => k_is); (case hs_NoName => k_is); (case hd_NoName => k_is); (case ha_NoName => k_is); (case hn_NoName => k_is); (case ht_NoName => k_is); (case hm_NoName => k_is); (case kC_NoName => k_is); (case tyC_NoName => k_is)
    (case aC_NoText => k_is); (case hg_NoText => k_is); (case hk_NoText => k_is); (case hs_NoText => k_is); (case hd_NoText => k_is); (case ha_NoText => k_is); (case hn_NoText => k_is); (case ht_NoText => k_is); (case hm_NoText => k_is); (case kC_NoText => k_is); (case tyC_NoText => k_is); (case lx_NoText => k_is); (case rv_NoText => decide +kernel); (case sa_NoText => k_is); (case ii_NoText => k_is); (case ti_NoText => k_is); (case na_NoText => k_is)
    (case aC_NoPlan => k_is); (case hg_NoPlan => k_is); (case hk_NoPlan => k_is); (case hs_NoPlan => k_is); (case hd_NoPlan => k_is); (case ha_NoPlan => k_is); (case hn_NoPlan => k_is); (case ht_NoPlan => k_is); (case hm_NoPlan => k_is); (case kC_NoPlan => k_is); (case tyC_NoPlan => k_is); (case xp_NoPlan => k_exc)
    (case aC_NoBook => k_is); (case hg_NoBook => k_is); (case hk_NoBook => k_is); (case hs_NoBook => k_is); (case hd_NoBook => k_is); (case ha_NoBook => k_is); (case hn_NoBook => k_is); (case ht_NoBook => k_is); (case hm_NoBook => k_is); (case kC_NoBook => k_is); (case tyC_NoBook => k_is); (case xp_NoBook => k_exc)
    (case aC_NoScript => k_is); (case hg_NoScript => k_is); (case hk_NoScript => k_is); (case hs_NoScript => k_is); (case hd_NoScript => k_is); (case ha_NoScript => k_is); (case hn_NoScript => k_is); (case ht_NoScript => k_is); (case hm_NoScript => k_is); (case kC_NoScript => k_is); (case tyC_NoScript => k_is); (case xp_NoScript => k_exc)
    (case aC_NoBounds => k_is); (case hg_NoBounds => k_is); (case hk_NoBounds => k_is); (case hs_NoBounds => k_is); (case hd_NoBounds => k_is); (case ha_NoBounds => k_is); (case hn_NoBounds => k_is); (case ht_NoBounds => k_is); (case hm_NoBounds => k_is); (case kC_NoBounds => k_is); (case tyC_NoBounds => k_is); (case xp_NoBounds => k_exc)
    (case aC_NotWaiting => k_is); (case hg_NotWaiting => k_is); (case hk_NotWaiting => k_is); (case hs_NotWaiting => k_is); (case hd_NotWaiting => k_is); (case ha_NotWaiting => k_is); (case hn_NotWaiting => k_is); (case ht_NotWaiting => k_is); (case hm_NotWaiting => k_is); (case kC_NotWaiting => k_is); (case tyC_NotWaiting => k_is); (case xp_NotWaiting => k_exc)
    (case aC_Uneven => k_is); (case hg_Uneven => k_is); (case hk_Uneven => k_is); (case hs_Uneven => k_is); (case hd_Uneven => k_is); (case ha_Uneven => k_is); (case hn_Uneven => k_is); (case ht_Uneven => k_is); (case hm_Uneven => k_is); (case kC_Uneven => k_is); (case tyC_Uneven => k_is); (case xp_Uneven => k_exc)
    (case aC_NoStep => k_is); (case hg_NoStep => k_is); (case hk_NoStep => k_is); (case hs_NoStep => k_is); (case hd_NoStep => k_is); (case ha_NoStep => k_is); (case hn_NoStep => k_is); (case ht_NoStep => k_is); (case hm_NoStep => k_is); (case kC_NoStep => k_is); (case tyC_NoStep => k_is); (case xp_NoStep => k_exc)
    (case aC_TooMany => k_is); (case hg_TooMany => k_is); (case hk_TooMany => k_is); (case hs_TooMany => k_is); (case hd_TooMany => k_is); (case ha_TooMany => k_is); (case hn_TooMany => k_is); (case ht_TooMany => k_is); (case hm_TooMany => k_is); (case kC_TooMany => k_is); (case tyC_TooMany => k_is); (case xp_TooMany => k_exc)
    (case aC_Endless => k_is); (case hg_Endless => k_is); (case hk_Endless => k_is); (case hs_Endless => k_is); (case hd_Endless => k_is); (case ha_Endless => k_is); (case hn_Endless => k_is); (case ht_Endless => k_is); (case hm_Endless => k_is); (case kC_Endless => k_is); (case tyC_Endless => k_is); (case xp_Endless => k_exc)
    (case aC_NoLine => k_is); (case hg_NoLine => k_is); (case hk_NoLine => k_is); (case hs_NoLine => k_is); (case hd_NoLine => k_is); (case ha_NoLine => k_is); (case hn_NoLine => k_is); (case ht_NoLine => k_is); (case hm_NoLine => k_is); (case kC_NoLine => k_is); (case tyC_NoLine => k_is); (case xp_NoLine => k_exc)
    (case aC_NoHouse => k_is); (case hg_NoHouse => k_is); (case hk_NoHouse => k_is); (case hs_NoHouse => k_is); (case hd_NoHouse => k_is); (case ha_NoHouse => k_is); (case hn_NoHouse => k_is); (case ht_NoHouse => k_is); (case hm_NoHouse => k_is); (case kC_NoHouse => k_is); (case tyC_NoHouse => k_is); (case xp_NoHouse => k_exc)
    (case sb_NoText_LockError => first | rfl | k_is)
    (case sb_NoText_NoName => first | rfl | k_is)
    (case sb_NoText_Endless => first | rfl | k_is)
    (case sb_NoText_NoBook => first | rfl | k_is)
    (case sb_NoText_NoBounds => first | rfl | k_is)
    (case sb_NoText_NoHouse => first | rfl | k_is)
    (case sb_NoText_NoLine => first | rfl | k_is)
    (case sb_NoText_NoPlan => first | rfl | k_is)
    (case sb_NoText_NoScript => first | rfl | k_is)
    (case sb_NoText_NoStep => first | rfl | k_is)
    (case sb_NoText_NotWaiting => first | rfl | k_is)
    (case sb_NoText_NoText => first | rfl | k_is)
    (case sb_NoText_TooMany => first | rfl | k_is)
    (case sb_NoText_Uneven => first | rfl | k_is)
    (case sb_NoText_ValueError => first | rfl | k_is)
    (case sb_NoBook_LockError => first | rfl | k_is)
    (case sb_NoBook_NoName => first | rfl | k_is)
    (case sb_NoBook_Endless => first | rfl | k_is)
    (case sb_NoBook_NoBook => first | rfl | k_is)
    (case sb_NoBook_NoBounds => first | rfl | k_is)
    (case sb_NoBook_NoHouse => first | rfl | k_is)
    (case sb_NoBook_NoLine => first | rfl | k_is)
    (case sb_NoBook_NoPlan => first | rfl | k_is)
    (case sb_NoBook_NoScript => first | rfl | k_is)
    (case sb_NoBook_NoStep => first | rfl | k_is)
    (case sb_NoBook_NotWaiting => first | rfl | k_is)
    (case sb_NoBook_NoText => first | rfl | k_is)
    (case sb_NoBook_TooMany => first | rfl | k_is)
    (case sb_NoBook_Uneven => first | rfl | k_is)
    (case sb_NoBook_ValueError => first | rfl | k_is)
    (case a0 => k_is); (case l0 => k_is); (case c0 => k_is); (case k0 => k_is)
    (case a1 => k_is); (case l1 => k_is); (case c1 => k_is); (case k1 => k_is)
    (case a2 => k_is); (case l2 => k_is); (case c2 => k_is); (case k2 => k_is)
    (case a3 => k_is); (case l3 => k_is); (case c3 => k_is); (case k3 => k_is)
    (case a4 => k_is); (case l4 => k_is); (case c4 => k_is); (case k4 => k_is)
    (case a5 => k_is); (case l5 => k_is); (case c5 => k_is); (case k5 => k_is)
    (case a6 => k_is); (case l6 => k_is); (case c6 => k_is); (case k6 => k_is)
    (case a7 => k_is); (case l7 => k_is); (case c7 => k_is); (case k7 => k_is)
    (case a8 => k_is); (case l8 => k_is); (case c8 => k_is); (case k8 => k_is)
    (case a9 => k_is); (case l9 => k_is); (case c9 => k_is); (case k9 => k_is)
    (case a10 => k_is); (case l10 => k_is); (case c10 => k_is); (case k10 => k_is)
    (case a11 => k_is); (case l11 => k_is); (case c11 => k_is); (case k11 => k_is)
    (case a12 => k_is); (case l12 => k_is); (case c12 => k_is); (case k12 => k_is)
    (case a13 => k_is); (case l13 => k_is); (case c13 => k_is); (case k13 => k_is)
    (case a14 => k_is); (case l14 => k_is); (case c14 => k_is); (case k14 => k_is)
    (case a15 => k_is); (case l15 => k_is); (case c15 => k_is); (case k15 => k_is)
    (case a16 => k_is); (case l16 => k_is); (case c16 => k_is); (case k16 => k_is)
    (case a17 => k_is); (case l17 => k_is); (case c17 => k_is); (case k17 => k_is)
    (case a18 => k_is); (case l18 => k_is); (case c18 => k_is); (case k18 => k_is)
    (case a19 => k_is); (case l19 => k_is); (case c19 => k_is); (case k19 => k_is)
    (case a20 => k_is); (case l20 => k_is); (case c20 => k_is); (case k20 => k_is)
    (case a21 => k_is); (case l21 => k_is); (case c21 => k_is); (case k21 => k_is)
    (case a22 => k_is); (case l22 => k_is); (case c22 => k_is); (case k22 => k_is)
    (case a23 => k_is); (case l23 => k_is); (case c23 => k_is); (case k23 => k_is)
    (case a24 => k_is); (case l24 => k_is); (case c24 => k_is); (case k24 => k_is)
    (case a25 => k_is); (case l25 => k_is); (case c25 => k_is); (case k25 => k_is)
    (case a26 => k_is); (case l26 => k_is); (case c26 => k_is); (case k26 => k_is)
    (case a27 => k_is); (case l27 => k_is); (case c27 => k_is); (case k27 => k_is)
    (case a28 => k_is); (case l28 => k_is); (case c28 => k_is); (case k28 => k_is)
    (case a29 => k_is); (case l29 => k_is); (case c29 => k_is); (case k29 => k_is)
    (case a30 => k_is); (case l30 => k_is); (case c30 => k_is); (case k30 => k_is)
    (case a31 => k_is); (case l31 => k_is); (case c31 => k_is); (case k31 => k_is)
    (case a32 => k_is); (case l32 => k_is); (case c32 => k_is); (case k32 => k_is)
    (case a33 => k_is); (case l33 => k_is); (case c33 => k_is); (case k33 => k_is)
    (case a34 => k_is); (case l34 => k_is); (case c34 => k_is); (case k34 => k_is)
    (case a35 => k_is); (case l35 => k_is); (case c35 => k_is); (case k35 => k_is)
    (case a36 => k_is); (case l36 => k_is); (case c36 => k_is); (case k36 => k_is)
    (case a37 => k_is); (case l37 => k_is); (case c37 => k_is); (case k37 => k_is)
    (case a38 => k_is); (case l38 => k_is); (case c38 => k_is); (case k38 => k_is)
    (case a39 => k_is); (case l39 => k_is); (case c39 => k_is); (case k39 => k_is)
    (case a40 => k_is); (case l40 => k_is); (case c40 => k_is); (case k40 => k_is)
    (case a41 => k_is); (case l41 => k_is); (case c41 => k_is); (case k41 => k_is)
    (case a42 => k_is); (case l42 => k_is); (case c42 => k_is); (case k42 => k_is)
    (case a43 => k_is); (case l43 => k_is); (case c43 => k_is); (case k43 => k_is)
    (case a44 => k_is); (case l44 => k_is); (case c44 => k_is); (case k44 => k_is)
    (case a45 => k_is); (case l45 => k_is); (case c45 => k_is); (case k45 => k_is)
    (case a46 => k_is); (case l46 => k_is); (case c46 => k_is); (case k46 => k_is)
    (case a47 => k_is); (case l47 => k_is); (case c47 => k_is); (case k47 => k_is)
    (case a48 => k_is); (case l48 => k_is); (case c48 => k_is); (case k48 => k_is)
    (case a49 => k_is); (case l49 => k_is); (case c49 => k_is); (case k49 => k_is)
    (case a50 => k_is); (case l50 => k_is); (case c50 => k_is); (case k50 => k_is)
    (case a51 => k_is); (case l51 => k_is); (case c51 => k_is); (case k51 => k_is)
    (case a52 => k_is); (case l52 => k_is); (case c52 => k_is); (case k52 => k_is)
    (case l53 => k_is); (case c53 => k_is); (case k53 => k_is)
    (case z0 => k_is)
    (case z1 => k_is)
    (case z2 => k_is)
    (case z3 => k_is)
    (case z4 => k_is)
    (case z5 => k_is)
    (case z6 => k_is)
    (case z7 => k_is)
    (case z8 => k_is)
    (case z9 => k_is)
    (case z10 => k_is)
    (case z11 => k_is)
    (case z12 => k_is)
    (case cM => k_is); (case cF => k_is); (case lF => k_is); (case kF => k_keys); (case lowF => decide)
    (case q1 => rfl); (case q2 => rfl); (case q3 => rfl); (case q4 => rfl); (case q5 => rfl); (case q6 => rfl)
    (case v1 => rfl); (case v2 => rfl); (case v3 => rfl); (case v4 => rfl); (case v5 => rfl); (case v6 => rfl); (case nd => decide)
    (case cL => k_is); (case cN => k_is); (case cB => k_is); (case cG => k_is); (case cQ => k_is); (case cK => k_is)
    (case lK => k_is); (case kK => k_keys); (case lowK => decide); (case qh1 => rfl); (case qh2 => rfl); (case qh3 => rfl)
    (case vh1 => rfl); (case vh2 => rfl); (case vh3 => rfl); (case ndK => decide)
    (case cBK => k_is); (case lBK => k_is); (case lBK0 => k_is)
    (case lBK1 => k_is); (case lBK2 => k_is); (case lBK3 => k_is); (case lBK4 => k_is); (case lBK5 => k_is); (case lBK6 => k_is)
    (case lBK7 => k_is)
