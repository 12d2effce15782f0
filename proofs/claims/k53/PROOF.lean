import PyProof.Rows.All
import Wide.All
import OpenK.AllK
import Wide.FinOn
import HandS.CallLocal
import HandS.Deep
import HandS.DeepEq
import HandS.DictComp
import HandS.Evl
import HandS.Exc
import HandS.ExcField
import HandS.ExcInit
import HandS.ExcIs
import HandS.ExcOwn
import HandS.ExcValue
import HandS.ForMost
import HandS.IsInst
import HandS.More
import HandS.OwnEq
import HandS.Star
import HandS.Strs
import HandS.Style
import HandS.TupAny
import HandS.Walk
import HandS.WordsExc
import HandS.WrittenGet
import HandS.Zip
import KE.KCallOwn
import KE.KDictZip
import PySem.Challenge.RW_nearlocks_k53_turns_of_members
set_option Elab.async false
set_option linter.all false
set_option maxRecDepth 100000
set_option maxHeartbeats 4000000
/-! the ground: data of the heap, their kinds, what stays -/
namespace NL
open PySem L2 Evl
mutual
theorem dp_of {K : PySem.W.Frag} {H H' : Hp} (el : ∀ a xs, SqL K H a xs → SqL K H' a xs) (et : ∀ a xs, SqT K H a xs → SqT K H' a xs) : ∀ (d : PyData) (v : V), Dp K H v d → Dp K H' v d
  | .none, _, h => by cases h; exact .non
  | .bool b, _, h => by cases h; exact .bl b
  | .int i, _, h => by cases h; exact .int i
  | .str x, _, h => by cases h; exact .str x
  | .list ds, _, h => by
    cases h with
    | lst hs ha => exact .lst (el _ _ hs) (dpa_of el et ds _ ha)
  | .tuple ds, _, h => by
    cases h with
    | tup hs ha => exact .tup (et _ _ hs) (dpa_of el et ds _ ha)
  | .dict _, _, h => by cases h
theorem dpa_of {K : PySem.W.Frag} {H H' : Hp} (el : ∀ a xs, SqL K H a xs → SqL K H' a xs) (et : ∀ a xs, SqT K H a xs → SqT K H' a xs) : ∀ (ds : List PyData) (vs : List V), DpAll K H vs ds → DpAll K H' vs ds
  | [], _, h => by cases h; exact .nil
  | d :: ds, _, h => by
    cases h with
    | cons h1 h2 => exact .cons (dp_of el et d _ h1) (dpa_of el et ds _ h2)
end
theorem dp_mono {K : PySem.W.Frag} {H H' : Hp} {v : V} {d : PyData} (e : Ex H H') (h : Dp K H v d) : Dp K H' v d := dp_of (fun _ _ => ex_l e) (fun _ _ => ex_t e) d v h
/-! ### kinds -/
def tyN : PyData → String
  | .none => "NoneType" | .bool _ => "bool" | .int _ => "int" | .str _ => "str" | .list _ => "list" | .tuple _ => "tuple" | .dict _ => "dict"
def isStrB : PyData → Bool
  | .str _ => true | _ => false
theorem kt_str (d : PyData) : kitB (tyN d) "str" = some (isStrB d) := by
  cases d
  · exact (by decide +kernel : kitB "NoneType" "str" = some false)
  · exact (by decide +kernel : kitB "bool" "str" = some false)
  · exact (by decide +kernel : kitB "int" "str" = some false)
  · exact (by decide +kernel : kitB "str" "str" = some true)
  · exact (by decide +kernel : kitB "list" "str" = some false)
  · exact (by decide +kernel : kitB "tuple" "str" = some false)
  · exact (by decide +kernel : kitB "dict" "str" = some false)
section
variable {K : PySem.W.Frag} {σ : L2.St} {H : Hp} {ta tb te : TE} {x v : V} {d : PyData}
theorem ev_ixT {p : Addr} {xs : List V} {i : Int} (ha : Ev ta σ H (.ref p)) (hb : Ev tb σ H (.int i)) (h : SqT K H p xs) (hi : atI xs i = some v) : Ev (tOp (rIxT K) ta tb) σ H v := ev_op ha hb (rv_ixT h hi)
theorem ev_eq {y : V} (ha : Ev ta σ H x) (hb : Ev tb σ H y) (h : scal x y = true) : Ev (tOp rEq ta tb) σ H (.bl (decide (x = y))) := ev_op ha hb (rv_eq h)
theorem ev_ne {y : V} (ha : Ev ta σ H x) (hb : Ev tb σ H y) (h : scal x y = true) : Ev (tOp rNe ta tb) σ H (.bl (!decide (x = y))) := ev_op ha hb (rv_ne h)
theorem ev_I0 {g : Int → Int → V} {i j : Int} (ha : Ev ta σ H (.int i)) (hb : Ev tb σ H (.int j)) : Ev (tOp (rI0 g) ta tb) σ H (g i j) := ev_op ha hb rv_I0
theorem ev_I {C : Int → Int → Prop} {g : Int → Int → V} {i j : Int} (hc : C i j) (ha : Ev ta σ H (.int i)) (hb : Ev tb σ H (.int j)) : Ev (tOp (rI C g) ta tb) σ H (g i j) := ev_op ha hb (rv_I hc)
theorem ev_allN {bs : List Bool} (ha : EvL ta σ H (bs.map V.bl)) : Ev (tCB (rAll K) (tCons ta tNil)) σ H (.bl (bs.all id)) := fun H1 e Q q =>
  ha H1 e _ fun p H2 _ e2 h2 => ⟨p, bs, rfl, sq_of h2, q H2 e2⟩
/-- a comprehension over a tuple, whose turns give or skip as told -/
theorem el_lcT {a : Addr} {xs : List V} {tl : TE} {tt : TT} {j : Nat} {vs : List Nat} (f : Nat → Bool) (g : Nat → V) (src : Ev tl σ H (.ref a)) (held : SqT K H a xs) (few : xs.length ≤ 40000) (clean : ∀ x, wipe ((wipe σ vs).set j (some x)) vs = wipe σ vs)
    (test : ∀ (i : Nat) (x : V) H1, Ex H H1 → xs[i]? = some x → EvT tt ((wipe σ vs).set j (some x)) H1 (f i)) (give : ∀ (i : Nat) (x : V) H1, Ex H H1 → xs[i]? = some x → f i = true → Ev te ((wipe σ vs).set j (some x)) H1 (g i)) :
    EvL (tLc (iTup K tl) (gName j) tt te vs) σ H (given xs.length f g) := by
  intro H0 e0 Q next
  refine src H0 e0 _ fun H1 e1 => ?_
  have e01 : Ex H H1 := e0.trans e1
  refine ⟨a, rfl, ⟨xs, ex_t e01 held⟩, fun made fresh => ?_⟩
  refine lc_tup (xs := xs) (Cw H1 f g made) ⟨fresh, Ex.new fresh, upd_same⟩ ?stays ?turn ?done
  case stays =>
    intro i H' _ inv
    exact ex_t (e01.trans inv.2.1) held
  case turn =>
    intro i x H' at_i inv
    have small : i < 50000 := by
      have := (List.getElem?_eq_some_iff.mp at_i).1
      omega
    exact ⟨clean x, cw_turn inv small (test i x H1 e01 at_i) (give i x H1 e01 at_i)⟩
  case done =>
    intro H' inv
    exact next made H' (fresh_back e1 inv.1) (e1.trans inv.2.1) inv.2.2
end
theorem s_next {D : Ends} {σ : L2.St} {H : Hp} (h : D.nx σ H) : tNext D σ H := h
theorem q_asgP {te : TE} {tz : TS} {D : Ends} {σ : L2.St} {H : Hp} {i : Nat} (h : te σ H fun v H1 => tz D (σ.set i (some v)) H1) : tSeq (tAsg te (gName i)) tz D σ H := h
theorem s_retP {te : TE} {D : Ends} {σ : L2.St} {H : Hp} (h : te σ H fun v H1 => D.rt v H1) : tRet te D σ H := h
theorem et_yes {σ : L2.St} {H : Hp} : EvT tYes σ H true := fun H1 _ _ q => q H1 (Ex.refl H1)
theorem given_all (n : Nat) (g : Nat → V) : given n (fun _ => true) g = (List.range n).map g := by
  unfold given
  rw [List.filter_eq_self.mpr (fun _ _ => rfl)]
/-! ### arguments without a star, whatever the scope -/
def noStar : Expr → Bool
  | .Starred _ _ => false
  | _ => true
theorem star1 {e : Expr} {es : List Expr} {env : Env} (h : noStar e = true) : starEach (e :: es) env = (false, eval e env) :: starEach es env := by
  cases e <;> first | rfl | cases h
theorem starAll {pos : Pos} {env : Env} : ∀ {es : List Expr}, es.all noStar = true → (backTo pos (starEach es env)).any (·.1) = false
  | [], _ => rfl
  | e :: es, h => by
    rw [List.all_cons, Bool.and_eq_true] at h
    rw [star1 h.1]
    have := starAll (pos := pos) (env := env) h.2
    unfold backTo at this ⊢
    simpa using this
/-! ### rules by a written part that is named -/
section
variable {X : Cx} {K : PySem.W.Frag}
theorem lenK (h : X.K = K) : CallR X (.builtin "len") (rLenS K) := by subst h; exact call_len_seq
theorem isiK (h : X.K = K) : CallR X (.builtin "isinstance") (rIsi K) := by subst h; exact call_isi
theorem allK (h : X.K = K) (hc : X.calm = true) : CallR X (.builtin "all") (rAll K) := by subst h; exact cr_all hc
theorem ixTK (h : X.K = K) : IxR X (rIxT K) := by subst h; exact ix_tup
theorem ixLK (h : X.K = K) : IxR X (rIxL K) := by subst h; exact ix_list
end
/-! ### a dict of the module, asked by any text -/
end NL
/-! the drawing hand: a list of a list of cells and a seed; what stays while it draws -/
namespace NL
open PySem L2 Evl
structure HandAt (H : Hp) (h l : Addr) (cs : List Int) (sd : Int) : Prop where
  hh : H h = some (.lst [.ref l, .int sd])
  hl : H l = some (.lst (cs.map V.int))
  lo : 0 ≤ sd
  hi : sd < 2305843009213693951
  few : cs.length ≤ 63
  pos : ∀ c ∈ cs, 0 ≤ c
def Hand (H : Hp) (h l : Addr) : Prop := ∃ cs sd, HandAt H h l cs sd
def Kp (h l : Addr) (H H' : Hp) : Prop := ∀ a o, a ≠ h → a ≠ l → H a = some o → H' a = some o
theorem Kp.refl (h l : Addr) (H : Hp) : Kp h l H H := fun _ _ _ _ e => e
theorem Kp.trans {h l : Addr} {H H1 H2 : Hp} (a : Kp h l H H1) (b : Kp h l H1 H2) : Kp h l H H2 := fun x o n m e => b x o n m (a x o n m e)
theorem Kp.ex {h l : Addr} {H H1 : Hp} (a : Ex H H1) : Kp h l H H1 := fun x o _ _ e => a x o e
theorem Kp.put {h l : Addr} {H H1 : Hp} {o : HO} {a : Addr} (k : Kp h l H H1) (ha : a = h ∨ a = l) : Kp h l H (upd H1 a o) := fun x u n m e => by
  have hx : x ≠ a := by rcases ha with rfl | rfl <;> assumption
  rw [upd_ne hx]
  exact k x u n m e
theorem HandAt.ne {H : Hp} {h l : Addr} {cs : List Int} {sd : Int} (A : HandAt H h l cs sd) : h ≠ l := by
  intro e
  subst e
  have e2 := A.hh.symm.trans A.hl
  cases cs with
  | nil => cases e2
  | cons c r => cases e2
theorem Hand.ne {H : Hp} {h l : Addr} (A : Hand H h l) : h ≠ l := by
  obtain ⟨cs, sd, A⟩ := A
  exact A.ne
theorem HandAt.ex {H H' : Hp} {h l : Addr} {cs : List Int} {sd : Int} (A : HandAt H h l cs sd) (e : Ex H H') : HandAt H' h l cs sd := ⟨e _ _ A.hh, e _ _ A.hl, A.lo, A.hi, A.few, A.pos⟩
theorem Hand.ex {H H' : Hp} {h l : Addr} (A : Hand H h l) (e : Ex H H') : Hand H' h l := by
  obtain ⟨cs, sd, A⟩ := A
  exact ⟨cs, sd, A.ex e⟩
theorem Hand.fresh {H : Hp} {h l p : Addr} (A : Hand H h l) (n : H p = none) : p ≠ h ∧ p ≠ l := by
  obtain ⟨cs, sd, A⟩ := A
  constructor
  · intro e
    subst e
    rw [A.hh] at n
    cases n
  · intro e
    subst e
    rw [A.hl] at n
    cases n
theorem Hand.off {H : Hp} {h l p : Addr} {o : HO} (A : Hand H h l) (n : H p = some o) (no : ∀ xs, o ≠ .lst xs) : p ≠ h ∧ p ≠ l := by
  obtain ⟨cs, sd, A⟩ := A
  constructor
  · intro e
    subst e
    rw [A.hh] at n
    cases n
    exact no _ rfl
  · intro e
    subst e
    rw [A.hl] at n
    cases n
    exact no _ rfl
/-- what is new lies beside the hand -/
theorem Hand.new {H : Hp} {h l p : Addr} {o : HO} (A : Hand H h l) (n : H p = none) : Hand (upd H p o) h l := A.ex (Ex.new n)
theorem Hand.upd {H : Hp} {h l p : Addr} {o : HO} (A : Hand H h l) (n : p ≠ h) (m : p ≠ l) : Hand (upd H p o) h l := by
  obtain ⟨cs, sd, A⟩ := A
  exact ⟨cs, sd, by rw [upd_ne (Ne.symm n)]; exact A.hh, by rw [upd_ne (Ne.symm m)]; exact A.hl, A.lo, A.hi, A.few, A.pos⟩
/-! ### lists of ints compared with [] -/
/-! ### slices of a list of ints, from its front -/
end NL
/-! defs that are called where no text of a heap's thing is being made: what repr asks for -/
namespace NL
open PySem PySem.Spec PyProof.Rows L2 Evl
/-- the promise of a def, kept wherever no repr is under way -/
structure FnG (P : Program) (w : World) (K : PySem.W.Frag) (mg : Str → Option Value) (base : Heap) (k : Nat) (f : Addr) (fd : FuncData) (ps : List Str) (sp : Sp) : Prop where
  arity : ∀ xs H Q E, sp xs H Q E → xs.length = ps.length
  go : ∀ (A : Around) (envs : List Env) (st : Shared) (H : Hp) (ar : Args) (vals : List Value) (xs : List V) (Q : VK) (E : XK), A.guards = some [] → Room k A → Env0 P w K mg base A envs st H → BindsTo st fd ar (ps.zip vals) → Vals xs vals → sp xs H Q E →
    codeAny (model P w) A (.call (.ref f) ar) (CR CX0 envs P w H st Q E) st
section
variable {P : Program} {w : World} {K : PySem.W.Frag} {mg : Str → Option Value} {base : Heap} {k : Nat} {f : Addr} {fd : FuncData} {ps : List Str} {sp : Sp}
theorem FnG.up {j : Nat} (F : FnG P w K mg base k f fd ps sp) (h : k ≤ j) : FnG P w K mg base j f fd ps sp := ⟨F.arity, fun A envs st H ar vals xs Q E g room => F.go A envs st H ar vals xs Q E g (room.mono h)⟩
/-- a def of the text, by its body -/
theorem fun_g {x qual : Str} {st : Stmt} {N : List Str} (F : Fun K x qual st f fd) (S : FnScope N ps (defScope st)) (arity : ∀ xs H Q E, sp xs H Q E → xs.length = ps.length)
    (body : ∀ (cdv : Value) (A : Around) (outer : List Env) (s : Shared) (H : Hp) (vs : List V) (Q : VK) (E : XK), A.guards = some [] → Room k (A.deeper (PyProof.Rows.envOfC qual (defScope st) s.heap.objs.size f cdv)) → sp vs H Q E →
      ∃ t, PSs (cxOf CX0 P w K mg base N qual (defScope st) f cdv A outer s H E).nox (defBody st) t ∧ t { nx := fun _ H' => Q .non H', rt := Q } (start N vs) H) : FnG P w K mg base (k + 1) f fd ps sp := by
  obtain ⟨oc, od, kV, doc, pm, an, cdv, ct, osl, hfd, look, code⟩ := F.ex
  subst hfd
  constructor
  · exact arity
  intro A envs s H ar vals xs Q E quiet room env0 binds rel promise
  have stays : ∀ b o, base.get? b = some o → s.heap.get? b = some o := fun b o e => (env0.bs b o e).1
  have kin : K.In s.heap := env0.mod.kin.keeps stays
  have nolim : s.heap.NoLimit := env0.mod.nolimit.keeps stays
  obtain ⟨t, walk, ends⟩ := body cdv A envs s H xs Q E quiet (room.deeper _) promise
  refine codeAny_call_function room.depth (kin _ _ look) rfl S.co S.gen rfl (PySem.W.codeRec_of kin code) (binds _ _ _ _ ?_)
  refine wpAny_newFunctionEnv_cells S.kind ?kinds fun env henv s1 made => ?_
  case kinds =>
    intro ⟨n, v⟩ mem
    cases S.par n (List.of_mem_zip mem).1 with
    | inl loc => exact Or.inl loc
    | inr cell => exact Or.inr ⟨cell, PySem.W.cellsFrom_some _ _ _ (Or.inl cell)⟩
  subst henv
  refine ⟨nolim.keeps made.toInCall.keep, codeAny_func ?_⟩
  refine wpAny_mono (walk.nox.run [] s1 (start N xs) H _ (inv_start S room.hd env0 (arity _ _ _ _ promise) rel made) ends) (fun flow s' out => ?_) fun e s' out => out
  match flow, out with
  | .ret u, out =>
    obtain ⟨v, σ', H', inv, ru, q⟩ := out
    exact ⟨v, H', inv.os, inv.bare, inv.base, inv.hok, ru, q⟩
  | .next, out =>
    obtain ⟨σ', H', inv, q⟩ := out
    exact ⟨V.non, H', inv.os, inv.bare, inv.base, inv.hok, rfl, q⟩
  | .brk, out => exact out.elim fun _ h => h.elim fun _ h => h.2.elim
  | .cont, out => exact out.elim fun _ h => h.elim fun _ h => h.2.elim
end
section
variable {X : Cx} {k : Nat} {f : Addr} {fd : FuncData} {ps : List Str} {sp : Sp} {x : Str} {p pos : Pos} {e : Expr} {es : List Expr} {t : TA}
/-- f(e, ..) where no repr is under way -/
theorem pe_callG (F : FnG X.prog X.w X.K X.mg X.base k f fd ps sp) (quiet : X.A.guards = some []) (hr : Room k X.A) (hg : Gl X x) (hm : X.mg x = some (.ref f)) (hk : PySem.W.keepIn X.K (.ref f) = true) (hb : Binds X.K fd ps []) (ha : PA X (e :: es) t)
    (hdb : (x == ("__debug__" : Str)) = false := by decide) (he : noStar e = true := by rfl) (hes : es.all noStar = true := by rfl) : PE X (.Call (.Name x p) (e :: es) [] pos) (tCall sp [] E0 t) := by
  constructor
  intro pins s σ H Q I reading
  refine wpAny_Call_Name_kw (ld_glob I hg hm ?_ hdb)
  refine PySem.W.callWith_K (h₀ := X.base) I.ok.mod.kin hk (thn (ha.run pos pins s σ H _ I reading) fun us s1 got => ?_) (star1 he) (starAll hes)
  obtain ⟨vs, H1, I1, rel, promise⟩ := got
  rw [List.append_nil] at promise
  refine ⟨I1.kIn, ?_⟩
  have len : us.length = ps.length := by
    rw [← rel.length]
    exact F.arity _ _ _ _ promise
  have bd := hb s1 us I1.kIn (by rw [List.append_nil]; exact len)
  rw [List.append_nil] at bd
  refine wpAny_call (codeAny_mono (F.go X.A X.stack s1 H1 ⟨us, []⟩ us vs Q E0 quiet hr I1.env0 bd rel promise) fun r s' out => ?_)
  match r, out with
  | .ok (.ret u), out => exact I1.after out
  | .ok .next, out => exact out.elim
  | .ok .brk, out => exact out.elim
  | .ok .cont, out => exact out.elim
  | .error _, out => exact out.elim
end
/-! ### the law's own call -/
end NL
/-! plans as trees, and as they lie in the heap -/
namespace NL
open PySem L2 Evl
inductive Tr where
  | hand (n : Str)
  | grp (n : Str) (b : Int) (ms : List Tr)
/-- name, whether it is a group, the groups around it -/
abbrev Rw := Str × Bool × List Str
mutual
def Tr.told : Tr → List Str → List Rw
  | .hand n, p => [(n, false, p)]
  | .grp n _ ms, p => (n, true, p) :: tolds ms (n :: p)
def tolds : List Tr → List Str → List Rw
  | [], _ => []
  | t :: ts, p => t.told p ++ tolds ts p
end
mutual
def Tr.size : Tr → Nat
  | .hand _ => 1
  | .grp _ _ ms => sizes ms + 1
def sizes : List Tr → Nat
  | [] => 0
  | t :: ts => t.size + sizes ts
end
mutual
def Tr.deep : Tr → Nat
  | .hand _ => 0
  | .grp _ _ ms => deeps ms + 1
def deeps : List Tr → Nat
  | [] => 0
  | t :: ts => max t.deep (deeps ts)
end
mutual
theorem told_len : ∀ (t : Tr) (p : List Str), (t.told p).length = t.size
  | .hand n, p => by simp [Tr.told, Tr.size]
  | .grp n b ms, p => by simp [Tr.told, Tr.size, tolds_len ms]
theorem tolds_len : ∀ (ts : List Tr) (p : List Str), (tolds ts p).length = sizes ts
  | [], p => by simp [tolds, sizes]
  | t :: ts, p => by simp [tolds, sizes, told_len t, tolds_len ts]
end
mutual
inductive TrV (H : Hp) : V → Tr → Prop
  | hand (n : Str) : TrV H (.str n) (.hand n)
  | grp {a m : Addr} {n : Str} {b : Int} {xs : List V} {ms : List Tr} : H a = some (.tup [.str n, .int b, .ref m]) → H m = some (.tup xs) → TrVs H xs ms → TrV H (.ref a) (.grp n b ms)
inductive TrVs (H : Hp) : List V → List Tr → Prop
  | nil : TrVs H [] []
  | cons {v : V} {vs : List V} {t : Tr} {ts : List Tr} : TrV H v t → TrVs H vs ts → TrVs H (v :: vs) (t :: ts)
end
/-- tuples stay -/
def TK (H H' : Hp) : Prop := ∀ a xs, H a = some (.tup xs) → H' a = some (.tup xs)
theorem TK.refl (H : Hp) : TK H H := fun _ _ e => e
theorem TK.trans {H H1 H2 : Hp} (a : TK H H1) (b : TK H1 H2) : TK H H2 := fun x o e => b x o (a x o e)
theorem TK.ex {H H' : Hp} (e : Ex H H') : TK H H' := fun a xs h => e a _ h
theorem TK.put {H : Hp} {p : Addr} {o : HO} (h : ∀ xs, H p ≠ some (.tup xs)) : TK H (upd H p o) := fun a xs e => by
  rw [upd_ne (fun z => by subst z; exact h _ e)]
  exact e
theorem TK.lst {H : Hp} {p : Addr} {o : HO} {ys : List V} (h : H p = some (.lst ys)) : TK H (upd H p o) := TK.put fun xs e => by rw [h] at e; cases e
theorem TK.new {H : Hp} {p : Addr} {o : HO} (h : H p = none) : TK H (upd H p o) := TK.put fun xs e => by rw [h] at e; cases e
mutual
theorem trv_tk {H H' : Hp} (k : TK H H') : ∀ (t : Tr) (v : V), TrV H v t → TrV H' v t
  | .hand n, _, h => by cases h; exact .hand n
  | .grp n b ms, _, h => by
    cases h with
    | grp h1 h2 h3 => exact .grp (k _ _ h1) (k _ _ h2) (trvs_tk k ms _ h3)
theorem trvs_tk {H H' : Hp} (k : TK H H') : ∀ (ts : List Tr) (vs : List V), TrVs H vs ts → TrVs H' vs ts
  | [], _, h => by cases h; exact .nil
  | t :: ts, _, h => by
    cases h with
    | cons h1 h2 => exact .cons (trv_tk k t _ h1) (trvs_tk k ts _ h2)
end
theorem trvs_get {H : Hp} : ∀ {vs : List V} {ts : List Tr} {i : Nat} {v : V}, TrVs H vs ts → vs[i]? = some v → ∃ t, ts[i]? = some t ∧ TrV H v t
  | _, _, _, _, .nil, e => by simp at e
  | _, _, 0, _, .cons r _, e => by simp at e; subst e; exact ⟨_, rfl, r⟩
  | _, _, i + 1, v, .cons _ t, e => by
    obtain ⟨d, h1, h2⟩ := trvs_get (i := i) (v := v) t (by simpa using e)
    exact ⟨d, by simpa using h1, h2⟩
theorem trvs_len {H : Hp} : ∀ {vs : List V} {ts : List Tr}, TrVs H vs ts → vs.length = ts.length
  | _, _, .nil => rfl
  | _, _, .cons _ t => by rw [List.length_cons, List.length_cons, trvs_len t]
theorem sizes_mem : ∀ {ts : List Tr} {i : Nat} {t : Tr}, ts[i]? = some t → t.size ≤ sizes ts
  | [], _, _, h => by simp at h
  | u :: ts, 0, t, h => by simp at h; subst h; simp [sizes]
  | u :: ts, i + 1, t, h => by
    have := sizes_mem (ts := ts) (i := i) (t := t) (by simpa using h)
    simp only [sizes]
    omega
theorem deeps_mem : ∀ {ts : List Tr} {i : Nat} {t : Tr}, ts[i]? = some t → t.deep ≤ deeps ts
  | [], _, _, h => by simp at h
  | u :: ts, 0, t, h => by simp at h; subst h; simp only [deeps]; exact Nat.le_max_left _ _
  | u :: ts, i + 1, t, h => by
    have := deeps_mem (ts := ts) (i := i) (t := t) (by simpa using h)
    simp only [deeps]
    exact Nat.le_trans this (Nat.le_max_right _ _)
theorem sizes_take : ∀ (ts : List Tr) (i : Nat), sizes (ts.take i) ≤ sizes ts
  | [], i => by simp [sizes]
  | t :: ts, 0 => by simp [sizes]
  | t :: ts, i + 1 => by
    have := sizes_take ts i
    simp only [List.take_succ_cons, sizes]
    omega
/-- a row of a tale of a plan, in the heap -/
def RowT (H : Hp) (v : V) (r : Rw) : Prop := ∃ a pa, v = .ref a ∧ H a = some (.tup [.str r.1, .bl r.2.1, .ref pa]) ∧ H pa = some (.tup (r.2.2.map V.str))
inductive Rows (H : Hp) : List V → List Rw → Prop
  | nil : Rows H [] []
  | cons {v : V} {vs : List V} {r : Rw} {rs : List Rw} : RowT H v r → Rows H vs rs → Rows H (v :: vs) (r :: rs)
theorem RowT.tk {H H' : Hp} {v : V} {r : Rw} (k : TK H H') (h : RowT H v r) : RowT H' v r := by
  obtain ⟨a, pa, e, h1, h2⟩ := h
  exact ⟨a, pa, e, k _ _ h1, k _ _ h2⟩
theorem Rows.tk {H H' : Hp} (k : TK H H') : ∀ {vs : List V} {rs : List Rw}, Rows H vs rs → Rows H' vs rs
  | _, _, .nil => .nil
  | _, _, .cons a b => .cons (a.tk k) (b.tk k)
theorem Rows.app {H : Hp} : ∀ {vs us : List V} {rs qs : List Rw}, Rows H vs rs → Rows H us qs → Rows H (vs ++ us) (rs ++ qs)
  | _, _, _, _, .nil, h => h
  | _, _, _, _, .cons a b, h => .cons a (b.app h)
theorem Rows.one {H : Hp} {v : V} {r : Rw} (h : RowT H v r) : Rows H [v] [r] := .cons h .nil
theorem Rows.len {H : Hp} : ∀ {vs : List V} {rs : List Rw}, Rows H vs rs → vs.length = rs.length
  | _, _, .nil => rfl
  | _, _, .cons _ t => by rw [List.length_cons, List.length_cons, t.len]
theorem Rows.get {H : Hp} : ∀ {vs : List V} {rs : List Rw} {i : Nat} {v : V}, Rows H vs rs → vs[i]? = some v → ∃ r, rs[i]? = some r ∧ RowT H v r
  | _, _, _, _, .nil, e => by simp at e
  | _, _, 0, _, .cons r _, e => by simp at e; subst e; exact ⟨_, rfl, r⟩
  | _, _, i + 1, v, .cons _ t, e => by
    obtain ⟨d, h1, h2⟩ := t.get (i := i) (v := v) (by simpa using e)
    exact ⟨d, by simpa using h1, h2⟩
/-- isinstance(x, T), by the thing's kind -/
theorem ev_isK {K : PySem.W.Frag} {σ : L2.St} {H : Hp} {ta : TE} {x : V} {T S : String} {b : Bool} (ha : Ev ta σ H x) (ty : ∀ H2, Ex H H2 → TyX K H2 x (.type S)) (hk : kitB S T = some b) : Ev (tCB (rIsi K) (tCons ta (tCons (tC (.ty T)) tNil))) σ H (.bl b) := fun H1 e Q q =>
  ha H1 e _ fun H2 e2 => ⟨x, .ty T, _, _, b, rfl, .ty T, ty H2 (e.trans e2), kit_ty hk, q H2 e2⟩
theorem q_asgG {te : TE} {g : TG} {tz : TS} {D : Ends} {σ : L2.St} {H : Hp} (h : te σ H fun x H1 => g x σ H1 fun σ2 H2 => tz D σ2 H2) : tSeq (tAsg te g) tz D σ H := h
def Tr.isHand : Tr → Bool
  | .hand _ => true
  | _ => false
theorem ev_isHand {K : PySem.W.Frag} {σ : L2.St} {H : Hp} {ta : TE} {x : V} {t : Tr} (ha : Ev ta σ H x) (h : TrV H x t) : Ev (tCB (rIsi K) (tCons ta (tCons (tC (.ty "str")) tNil))) σ H (.bl t.isHand) := by
  cases h with
  | hand n => exact ev_isK ha (fun H2 _ => .base (.str n)) (by decide +kernel : kitB "str" "str" = some true)
  | grp h1 h2 h3 => exact ev_isK ha (fun H2 e => .base (.tup (e _ _ h1))) (by decide +kernel : kitB "tuple" "str" = some false)
theorem filter_take {α : Type} {p : α → Bool} {rs : List α} {i : Nat} {r : α} (h : rs[i]? = some r) : (rs.take (i + 1)).filter p = (rs.take i).filter p ++ (if p r = true then [r] else []) := by
  rw [List.take_succ, h, List.filter_append]
  simp [List.filter_cons]
/-! ### names -/
def nameOk (s : Str) : Prop := 1 ≤ s.length ∧ s.length ≤ 8 ∧ ∀ c ∈ s.cps.toList, 97 ≤ c ∧ c ≤ 122
theorem q_parP {i j : Nat} {ta : TA} {tz : TS} {D : Ends} {σ : L2.St} {H : Hp} (h : ta σ H fun vs H1 => ∃ v w, vs = [v, w] ∧ tz D ((σ.set i (some v)).set j (some w)) H1) : tSeq (tPar i j ta) tz D σ H := h
theorem in_strs {x : Str} {xs : List Str} : inV (.str x) (xs.map V.str) = decide (x ∈ xs) := by
  unfold inV
  rw [List.any_map]
  rw [Bool.eq_iff_iff, List.any_eq_true, decide_eq_true_eq]
  constructor
  · intro ⟨y, hy, e⟩
    have : y = x := by simpa [eqV] using e
    subst this
    exact hy
  · intro h
    exact ⟨x, h, by simp [eqV]⟩
theorem tYesQ {σ : L2.St} {H : Hp} {A B : Hp → Prop} (h : A H) : tYes σ H fun b H3 => if b = true then A H3 else B H3 := by
  show if true = true then A H else B H
  rw [if_pos rfl]
  exact h
/-! ### names of a tree -/
mutual
def Tr.nms : Tr → List Str
  | .hand n => [n]
  | .grp n _ ms => n :: nmss ms
def nmss : List Tr → List Str
  | [] => []
  | t :: ts => t.nms ++ nmss ts
end
mutual
theorem told_nms : ∀ (t : Tr) (p : List Str), (t.told p).map (·.1) = t.nms
  | .hand n, p => by simp [Tr.told, Tr.nms]
  | .grp n b ms, p => by simp [Tr.told, Tr.nms, tolds_nms ms]
theorem tolds_nms : ∀ (ts : List Tr) (p : List Str), (tolds ts p).map (·.1) = nmss ts
  | [], p => by simp [tolds, nmss]
  | t :: ts, p => by simp [tolds, nmss, told_nms t, tolds_nms ts]
end
theorem nms_len (t : Tr) : t.nms.length = t.size := by rw [← told_nms t [], List.length_map, told_len]
theorem nmss_len (ts : List Tr) : (nmss ts).length = sizes ts := by rw [← tolds_nms ts [], List.length_map, tolds_len]
theorem nmss_app : ∀ (ts us : List Tr), nmss (ts ++ us) = nmss ts ++ nmss us
  | [], us => by simp [nmss]
  | t :: ts, us => by simp [nmss, nmss_app ts us]
theorem sizes_app : ∀ (ts us : List Tr), sizes (ts ++ us) = sizes ts + sizes us
  | [], us => by simp [sizes]
  | t :: ts, us => by simp [sizes, sizes_app ts us]; omega
theorem deeps_app : ∀ (ts us : List Tr), deeps (ts ++ us) = max (deeps ts) (deeps us)
  | [], us => by simp [deeps]
  | t :: ts, us => by simp [deeps, deeps_app ts us, Nat.max_assoc]
theorem trvs_app {H : Hp} : ∀ {vs us : List V} {ts qs : List Tr}, TrVs H vs ts → TrVs H us qs → TrVs H (vs ++ us) (ts ++ qs)
  | _, _, _, _, .nil, h => h
  | _, _, _, _, .cons a b, h => .cons a (trvs_app b h)
mutual
def Tr.ok : Tr → Prop
  | .hand _ => True
  | .grp _ b ms => 1 ≤ b ∧ b ≤ 999999999 ∧ ms ≠ [] ∧ oks ms
def oks : List Tr → Prop
  | [] => True
  | t :: ts => t.ok ∧ oks ts
end
theorem oks_app : ∀ {ts us : List Tr}, oks ts → oks us → oks (ts ++ us)
  | [], _, _, h => h
  | _ :: _, _, a, h => by
    simp only [oks, List.cons_append] at a ⊢
    exact ⟨a.1, oks_app a.2 h⟩
/-- how many names a member takes at most -/
def mem : Nat → Nat → Nat
  | 0, _ => 1
  | d + 1, w => 1 + w * mem d w
/-- all stays but the hand and one list -/
def Kn (h l m : Addr) (H H' : Hp) : Prop := ∀ a o, a ≠ h → a ≠ l → a ≠ m → H a = some o → H' a = some o
theorem Kn.refl (h l m : Addr) (H : Hp) : Kn h l m H H := fun _ _ _ _ _ e => e
theorem Kn.trans {h l m : Addr} {H H1 H2 : Hp} (a : Kn h l m H H1) (b : Kn h l m H1 H2) : Kn h l m H H2 := fun x o n1 n2 n3 e => b x o n1 n2 n3 (a x o n1 n2 n3 e)
theorem Kn.kp {h l m : Addr} {H H1 : Hp} (a : Kp h l H H1) : Kn h l m H H1 := fun x o n1 n2 _ e => a x o n1 n2 e
theorem Kn.ex {h l m : Addr} {H H1 : Hp} (a : Ex H H1) : Kn h l m H H1 := fun x o _ _ _ e => a x o e
theorem Kn.mut {h l m p : Addr} {H H1 : Hp} {o : HO} (a : Kn h l m H H1) (hp : H p = none) : Kn h l m H (upd H1 p o) := fun x u n1 n2 n3 e => by
  rw [upd_ne (fun z => by subst z; rw [hp] at e; cases e)]
  exact a x u n1 n2 n3 e
theorem Kn.tk {h l m : Addr} {H H1 : Hp} {ys : List V} (A : Hand H h l) (hm : H m = some (.lst ys)) (a : Kn h l m H H1) : TK H H1 := fun x xs e => by
  obtain ⟨n1, n2⟩ := A.off e (fun _ z => by cases z)
  exact a x _ n1 n2 (fun z => by subst z; rw [hm] at e; cases e) e
theorem q_forU {wi : TI} {g : TG} {tb tz : TS} {D : Ends} {σ : L2.St} {H : Hp} (h : wi σ H fun J H1 => ∃ W : Nat → Nat → L2.St → Hp → Prop, (∃ m, W 0 m σ H1) ∧ ∀ i m σ H, W i m σ H →
    (J.stop i H ∧ tz D σ H) ∨ (J.go i H ∧ ∃ N : L2.St → Hp → Prop, (∀ σ' H', N σ' H' → ∃ m', m' < m ∧ W (i + 1) m' σ' H') ∧ ∀ x H', J.yld i H x H' → g x σ H' fun σ2 H2 => tb { D with nx := N, ct := N, bk := tz D } σ2 H2)) : tSeq (tFor wi g tb) tz D σ H := h
theorem rng_turns {g : TG} {tb tz : TS} {D : Ends} {σ : L2.St} {H : Hp} {n : Nat} (Pv : Nat → L2.St → Hp → Prop) (h0 : Pv 0 σ H) (hs : ∀ (i : Nat) σ' H', i < n → Pv i σ' H' → g (.int (0 + (i : Int))) σ' H' fun σ2 H2 => tb { D with nx := Pv (i + 1), ct := Pv (i + 1), bk := tz D } σ2 H2) (hd : ∀ σ' H', Pv n σ' H' → tz D σ' H') :
    ∃ W : Nat → Nat → L2.St → Hp → Prop, (∃ m, W 0 m σ H) ∧ ∀ i m σ H, W i m σ H →
    ((Itr 0 n).stop i H ∧ tz D σ H) ∨ ((Itr 0 n).go i H ∧ ∃ N : L2.St → Hp → Prop, (∀ σ' H', N σ' H' → ∃ m', m' < m ∧ W (i + 1) m' σ' H') ∧ ∀ x H', (Itr 0 n).yld i H x H' → g x σ H' fun σ2 H2 => tb { D with nx := N, ct := N, bk := tz D } σ2 H2) :=
  for_range (lo := 0) (n := n) (D := { D with nx := tz D }) Pv h0 hs hd
end NL
/-! repr of what lies in the heap; plans as data -/
namespace NL
open PySem PySem.Spec PyProof.Rows L2 Evl
theorem hu_r {k : Nat} {A : Around} (hr : Room k A) : A.units + 100 < cLine := by
  have := hr.un
  omega
/-! ### how long a text is -/
theorem join_len (sep : Str) : ∀ ts : List Str, (Str.join sep ts).length ≤ (ts.map fun t => t.length + sep.length).sum
  | [] => by simp [Str.join, Str.empty, Str.length]
  | [t] => by simp [Str.join]
  | t :: u :: r => by
    have ih := join_len sep (u :: r)
    simp only [Str.join, Str.length_append, List.map_cons, List.sum_cons] at ih ⊢
    omega
theorem tuple_len (ts : List Str) : (tupleText ts).length ≤ (ts.map fun t => t.length + 2).sum + 3 := by
  unfold tupleText
  rw [Str.length_append, Str.length_append]
  have h := join_len ", " ts
  have e1 : (", " : Str).length = 2 := by decide +kernel
  have e2 : ("(" : Str).length = 1 := by decide +kernel
  rw [e1] at h
  have e3 : (Str.ofString (if (ts.length == 1) = true then ",)" else ")" : String)).length ≤ 2 := by
    split
    · decide +kernel
    · decide +kernel
  omega
theorem name_len {n : Str} (h : nameOk n) : (PyData.str n).shown.length ≤ 82 := by
  have e : (PyData.str n).shown = reprText n := by simp only [PyData.shown]
  rw [e]
  have := StrLaws.reprText_len n (fun c hc => by have := h.2.2 c hc; omega)
  have := h.2.1
  omega
theorem shownAll_map : ∀ ds : List PyData, PyData.shownAll ds = ds.map PyData.shown
  | [] => by simp [PyData.shownAll]
  | d :: ds => by simp [PyData.shownAll, shownAll_map ds]
/-! ### a plan as a datum -/
mutual
def Tr.dat : Tr → PyData
  | .hand n => .str n
  | .grp n b ms => .tuple [.str n, .int b, .tuple (dats ms)]
def dats : List Tr → List PyData
  | [] => []
  | t :: ts => t.dat :: dats ts
end
mutual
theorem trv_dp {K : PySem.W.Frag} {H : Hp} : ∀ (t : Tr) (v : V), TrV H v t → Dp K H v t.dat
  | .hand n, _, h => by cases h; simp only [Tr.dat]; exact .str n
  | .grp n b ms, _, h => by
    cases h with
    | grp h1 h2 h3 =>
      simp only [Tr.dat]
      exact .tup (st_of h1) (.cons (.str n) (.cons (.int b) (.cons (.tup (st_of h2) (trvs_dp ms _ h3)) .nil)))
theorem trvs_dp {K : PySem.W.Frag} {H : Hp} : ∀ (ts : List Tr) (vs : List V), TrVs H vs ts → DpAll K H vs (dats ts)
  | [], _, h => by cases h; simp only [dats]; exact .nil
  | t :: ts, _, h => by
    cases h with
    | cons h1 h2 =>
      simp only [dats]
      exact .cons (trv_dp t _ h1) (trvs_dp ts _ h2)
end
theorem ok_lay {n : Str} (h : nameOk n) : PyData.strOk n = true := by
  unfold PyData.strOk
  rw [Array.all_eq_true']
  intro c hc
  have := h.2.2 c (by simpa using hc)
  simp
  omega
mutual
theorem dat_facts : ∀ (t : Tr), (∀ n ∈ t.nms, nameOk n) → t.ok → t.dat.canLay0 = true ∧ t.dat.depth ≤ 2 * t.deep ∧ t.dat.showable = true ∧ t.dat.hasDict = false ∧ t.dat.shown.length + 2 ≤ 150 * t.size
  | .hand n, h, _ => by
    have hn := h n (by simp [Tr.nms])
    have := name_len hn
    simp only [Tr.dat, Tr.deep, Tr.size]
    refine ⟨by simp only [PyData.canLay0]; exact ok_lay hn, by simp [PyData.depth], by simp [PyData.showable], by simp [PyData.hasDict], by omega⟩
  | .grp n b ms, h, ho => by
    have hn := h n (by simp [Tr.nms])
    have hb := name_len hn
    simp only [Tr.ok] at ho
    obtain ⟨b1, b2, _, ho⟩ := ho
    obtain ⟨i1, i2, i3, i4, i5⟩ := dats_facts ms (fun m hm => h m (by simp [Tr.nms, hm])) ho
    have bl : b.natAbs.log2 < 30 := by
      have : b.natAbs < 2 ^ 30 := by omega
      by_cases h0 : b.natAbs = 0
      · rw [h0]; decide
      · exact (Nat.log2_lt h0).mpr this
    have it : (PyData.int b).shown.length ≤ 31 := by
      simp only [PyData.shown]
      have := int_text_length_le (a := b) (k := 30) (by decide) bl
      rw [PySem.ofString_length]
      exact this
    simp only [Tr.dat, Tr.deep, Tr.size]
    refine ⟨?_, ?_, ?_, ?_, ?_⟩
    · simp [PyData.canLay0, PyData.canLayAll0, ok_lay hn, i1]
    · simp only [PyData.depth, PyData.depthAll]
      omega
    · simp only [PyData.showable, PyData.showableAll, i3, Bool.and_true, Bool.true_and, decide_eq_true_eq]
      omega
    · simp [PyData.hasDict, PyData.hasDictAll, i4]
    · have t1 := tuple_len [(PyData.str n).shown, (PyData.int b).shown, (PyData.tuple (dats ms)).shown]
      have t2 := tuple_len ((dats ms).map PyData.shown)
      have e1 : (PyData.tuple [.str n, .int b, .tuple (dats ms)]).shown = tupleText [(PyData.str n).shown, (PyData.int b).shown, (PyData.tuple (dats ms)).shown] := by simp only [PyData.shown, PyData.shownAll]
      have e2 : (PyData.tuple (dats ms)).shown = tupleText ((dats ms).map PyData.shown) := by simp only [PyData.shown, shownAll_map]
      rw [e1]
      simp only [List.map_cons, List.map_nil, List.sum_cons, List.sum_nil] at t1
      rw [e2] at t1 ⊢
      omega
theorem dats_facts : ∀ (ts : List Tr), (∀ n ∈ nmss ts, nameOk n) → oks ts → PyData.canLayAll0 (dats ts) = true ∧ PyData.depthAll (dats ts) ≤ 2 * deeps ts ∧ PyData.showableAll (dats ts) = true ∧ PyData.hasDictAll (dats ts) = false ∧ (((dats ts).map PyData.shown).map fun t => t.length + 2).sum ≤ 150 * sizes ts
  | [], _, _ => by simp [dats, PyData.canLayAll0, PyData.depthAll, PyData.showableAll, PyData.hasDictAll, deeps, sizes]
  | t :: ts, h, ho => by
    simp only [oks] at ho
    obtain ⟨i1, i2, i3, i4, i5⟩ := dat_facts t (fun m hm => h m (by simp [nmss, hm])) ho.1
    obtain ⟨j1, j2, j3, j4, j5⟩ := dats_facts ts (fun m hm => h m (by simp [nmss, hm])) ho.2
    simp only [dats, PyData.canLayAll0, PyData.depthAll, PyData.showableAll, PyData.hasDictAll, deeps, sizes, i1, j1, i3, j3, i4, j4, List.map_cons, List.sum_cons]
    refine ⟨rfl, ?_, rfl, rfl, ?_⟩
    · omega
    · omega
end
/-! ### what waits: a tree with the path around it -/
def QV (H : Hp) (v : V) (r : Tr × List Str) : Prop := ∃ a pa x, v = .ref a ∧ H a = some (.tup [x, .ref pa]) ∧ TrV H x r.1 ∧ H pa = some (.tup (r.2.map V.str))
inductive Queue (H : Hp) : List V → List (Tr × List Str) → Prop
  | nil : Queue H [] []
  | cons {v : V} {vs : List V} {r : Tr × List Str} {rs : List (Tr × List Str)} : QV H v r → Queue H vs rs → Queue H (v :: vs) (r :: rs)
theorem QV.tk {H H' : Hp} {v : V} {r : Tr × List Str} (k : TK H H') (h : QV H v r) : QV H' v r := by
  obtain ⟨a, pa, x, e, h1, h2, h3⟩ := h
  exact ⟨a, pa, x, e, k _ _ h1, trv_tk k _ _ h2, k _ _ h3⟩
theorem Queue.tk {H H' : Hp} (k : TK H H') : ∀ {vs : List V} {rs : List (Tr × List Str)}, Queue H vs rs → Queue H' vs rs
  | _, _, .nil => .nil
  | _, _, .cons a b => .cons (a.tk k) (b.tk k)
theorem Queue.app {H : Hp} : ∀ {vs us : List V} {rs qs : List (Tr × List Str)}, Queue H vs rs → Queue H us qs → Queue H (vs ++ us) (rs ++ qs)
  | _, _, _, _, .nil, h => h
  | _, _, _, _, .cons a b, h => .cons a (b.app h)
theorem Queue.len {H : Hp} : ∀ {vs : List V} {rs : List (Tr × List Str)}, Queue H vs rs → vs.length = rs.length
  | _, _, .nil => rfl
  | _, _, .cons _ t => by rw [List.length_cons, List.length_cons, t.len]
theorem s_asgP {te : TE} {D : Ends} {σ : L2.St} {H : Hp} {i : Nat} (h : te σ H fun v H1 => D.nx (σ.set i (some v)) H1) : tAsg te (gName i) D σ H := h
theorem size_pos (t : Tr) : 1 ≤ t.size := by
  cases t <;> simp [Tr.size]
theorem len_sizes : ∀ ts : List Tr, ts.length ≤ sizes ts
  | [] => by simp
  | t :: ts => by
    have := len_sizes ts
    have := size_pos t
    simp only [List.length_cons, sizes]
    omega
def rTup (K : PySem.W.Frag) : List V → Hp → VK → Prop := fun xs H Q => ∃ p ys, xs = [.ref p] ∧ ((SqL K H p ys ∧ ∀ l, H l = none → Q (.ref l) (upd H l (.tup ys))) ∨ (SqT K H p ys ∧ Q (.ref p) H))
theorem tupleK {X : Cx} {K : PySem.W.Frag} (h : X.K = K) : CallR X (.type "tuple") (rTup K) := by subst h; exact call_tuple_of
end NL
/-! data with dicts in them (what a dict holds is left aside), and what a plan is among them -/
namespace NL
open PySem L2 Evl
mutual
inductive Dx (K : PySem.W.Frag) (H : Hp) : V → PyData → Prop
  | non : Dx K H .non .none
  | bl (b : Bool) : Dx K H (.bl b) (.bool b)
  | int (i : Int) : Dx K H (.int i) (.int i)
  | str (x : Str) : Dx K H (.str x) (.str x)
  | lst {a : Addr} {xs : List V} {ds : List PyData} : SqL K H a xs → DxAll K H xs ds → Dx K H (.ref a) (.list ds)
  | tup {a : Addr} {xs : List V} {ds : List PyData} : SqT K H a xs → DxAll K H xs ds → Dx K H (.ref a) (.tuple ds)
  | dct {a : Addr} {kvs : List (Key × V)} {ks : List (PyData × PyData)} : H a = some (.dK kvs) → Dx K H (.ref a) (.dict ks)
inductive DxAll (K : PySem.W.Frag) (H : Hp) : List V → List PyData → Prop
  | nil : DxAll K H [] []
  | cons {v : V} {vs : List V} {d : PyData} {ds : List PyData} : Dx K H v d → DxAll K H vs ds → DxAll K H (v :: vs) (d :: ds)
end
mutual
theorem dx_of {K : PySem.W.Frag} {H H' : Hp} (el : ∀ a xs, SqL K H a xs → SqL K H' a xs) (et : ∀ a xs, SqT K H a xs → SqT K H' a xs) (ed : ∀ a kvs, H a = some (.dK kvs) → ∃ kvs', H' a = some (.dK kvs')) : ∀ (d : PyData) (v : V), Dx K H v d → Dx K H' v d
  | .none, _, h => by cases h; exact .non
  | .bool b, _, h => by cases h; exact .bl b
  | .int i, _, h => by cases h; exact .int i
  | .str x, _, h => by cases h; exact .str x
  | .list ds, _, h => by
    cases h with
    | lst hs ha => exact .lst (el _ _ hs) (dxa_of el et ed ds _ ha)
  | .tuple ds, _, h => by
    cases h with
    | tup hs ha => exact .tup (et _ _ hs) (dxa_of el et ed ds _ ha)
  | .dict kvs, _, h => by
    cases h with
    | dct hd =>
      obtain ⟨kvs', hd'⟩ := ed _ _ hd
      exact .dct hd'
theorem dxa_of {K : PySem.W.Frag} {H H' : Hp} (el : ∀ a xs, SqL K H a xs → SqL K H' a xs) (et : ∀ a xs, SqT K H a xs → SqT K H' a xs) (ed : ∀ a kvs, H a = some (.dK kvs) → ∃ kvs', H' a = some (.dK kvs')) : ∀ (ds : List PyData) (vs : List V), DxAll K H vs ds → DxAll K H' vs ds
  | [], _, h => by cases h; exact .nil
  | d :: ds, _, h => by
    cases h with
    | cons h1 h2 => exact .cons (dx_of el et ed d _ h1) (dxa_of el et ed ds _ h2)
end
theorem dx_mono {K : PySem.W.Frag} {H H' : Hp} {v : V} {d : PyData} (e : Ex H H') (h : Dx K H v d) : Dx K H' v d := dx_of (fun _ _ => ex_l e) (fun _ _ => ex_t e) (fun a kvs z => ⟨kvs, e _ _ z⟩) d v h
theorem dxa_len {K : PySem.W.Frag} {H : Hp} : ∀ {vs : List V} {ds : List PyData}, DxAll K H vs ds → vs.length = ds.length
  | _, _, .nil => rfl
  | _, _, .cons _ t => by rw [List.length_cons, List.length_cons, dxa_len t]
theorem dx_ty {K : PySem.W.Frag} {H : Hp} {v : V} {d : PyData} (h : Dx K H v d) : TyX K H v (.type (tyN d)) := by
  cases h with
  | non => exact .base .non
  | bl b => exact .base (.bl b)
  | int i => exact .base (.int i)
  | str x => exact .base (.str x)
  | lst hs _ =>
    rcases hs with (h | ⟨o, h⟩) | ⟨o, its, n, h, c, _⟩
    · exact .base (.lst h)
    · exact .base (.frz h)
    · exact .kList h c
  | tup hs _ =>
    rcases hs with (h | ⟨o, h⟩) | ⟨o, its, n, h, c, _⟩
    · exact .base (.tup h)
    · exact .fTuple h
    · exact .kTuple h c
  | dct h => exact .base (.dK h)
theorem ev_isX {K : PySem.W.Frag} {σ : L2.St} {H : Hp} {ta : TE} {x : V} {d : PyData} {T : String} {b : Bool} (ha : Ev ta σ H x) (hd : Dx K H x d) (hk : kitB (tyN d) T = some b) : Ev (tCB (rIsi K) (tCons ta (tCons (tC (.ty T)) tNil))) σ H (.bl b) := fun H1 e Q q =>
  ha H1 e _ fun H2 e2 => ⟨x, .ty T, _, _, b, rfl, .ty T, dx_ty (dx_mono (e.trans e2) hd), kit_ty hk, q H2 e2⟩
/-! ### names, plans -/
mutual
def nodes : PyData → Nat
  | .tuple ds => nodess ds + 1
  | .list ds => nodess ds + 1
  | _ => 1
def nodess : List PyData → Nat
  | [] => 0
  | d :: ds => nodes d + nodess ds
end
/-- all but the dict at sd stays -/
def KD (sd : Addr) (H H' : Hp) : Prop := ∀ a o, a ≠ sd → H a = some o → H' a = some o
theorem KD.trans {sd : Addr} {H H1 H2 : Hp} (a : KD sd H H1) (b : KD sd H1 H2) : KD sd H H2 := fun x o n e => b x o n (a x o n e)
theorem KD.ex {sd : Addr} {H H1 : Hp} (a : Ex H H1) : KD sd H H1 := fun x o _ e => a x o e
end NL
/-! all names of a plan, as a datum -/
namespace NL
open PySem L2 Evl
def within (o : Option (List Str)) (seen : List Str) : Option (List Str) := match o with
  | none => none
  | some ns => if ns.Nodup ∧ ∀ n ∈ ns, n ∉ seen then some (seen ++ ns) else none
end NL
/-! a list that is extended by a tuple, a list as a test; the names of a plan from a pile of what waits -/
namespace NL
open PySem L2 Evl
/-! ### what waits, the last one first -/
theorem q_whenM {t : TT} {tu tz : TS} {D : Ends} {σ : L2.St} {H : Hp} {b : Bool} (M : L2.St → Hp → Prop) (h : EvT t σ H b) (k : ∀ σ' H', M σ' H' → tz D σ' H')
    (h1 : ∀ R : L2.St → Hp → Prop, (∀ σ' H', M σ' H' → R σ' H') → b = true → ∀ H1, Ex H H1 → tu { D with nx := R } σ H1) (h2 : b = false → ∀ H1, Ex H H1 → M σ H1) : tSeq (tIfS t tu tNext) tz D σ H :=
  q_when h (h1 (tz D) k) fun hb H1 e => k σ H1 (h2 hb H1 e)
theorem s_dropP {te : TE} {D : Ends} {σ : L2.St} {H : Hp} (h : te σ H fun v H1 => D.nx σ H1) : tDrop te D σ H := h
end NL
/-! a comprehension with two for: what is in tuples of a tuple, one behind the other -/
namespace NL
open PySem L2 Evl
theorem piTK {X : Cx} {K : PySem.W.Frag} {tg e : Expr} {tl : TE} (hK : X.K = K) (he : PE X e tl) : PI X tg e (iTup K tl) := by
  subst hK
  exact pi_tup he
theorem inSK {X : Cx} {K : PySem.W.Frag} (h : X.K = K) : OpR X (compareOp .In) (rIn K false) := by subst h; exact op_in_seq
theorem plLK {X : Cx} {K : PySem.W.Frag} {tg e : Expr} {tl : TE} (hK : X.K = K) (he : PE X e tl) : PI X tg e (iList K tl) := by
  subst hK
  exact pi_list he
end NL
/-! sets of texts, made of a list or a tuple; how many are in them -/
namespace NL
open PySem PySem.Spec PyProof.Rows L2 Evl
/-- just these texts lie in the set at S, and as many as they are where all are unlike -/
def TextSet (P : Program) (w : World) (h : Heap) (S : Addr) (xs : List Str) : Prop := ∃ n, h.SetOf (strKind P w) S (fun k => decide (k ∈ xs)) n ∧ n ≤ xs.length ∧ (n = xs.length ↔ xs.Nodup)
theorem nodup_app {xs : List Str} {x : Str} : (xs ++ [x]).Nodup ↔ xs.Nodup ∧ x ∉ xs := by
  rw [List.nodup_append]
  constructor
  · rintro ⟨a, b, c⟩
    exact ⟨a, fun h => c x h x (List.mem_singleton.mpr rfl) rfl⟩
  · rintro ⟨a, b⟩
    exact ⟨a, by simp, fun y hy z hz e => by rw [List.mem_singleton.mp hz] at e; subst e; exact b hy⟩
theorem TextSet.at {P : Program} {w : World} {h h' : Heap} {S : Addr} {xs : List Str} (t : TextSet P w h S xs) (k : ∀ o, h.get? S = some o → h'.get? S = some o) : TextSet P w h' S xs := by
  obtain ⟨n, ⟨o, es, ep, tb, ho, rest⟩, r⟩ := t
  exact ⟨n, ⟨o, es, ep, tb, k _ ho, rest⟩, r⟩
section
variable {P : Program} {w : World} {A : Around} {R : Result → Shared → Prop} {J : Addr} {fp wr : List Addr} {G : Array GenState → Array GenState → Prop} {m : Nat} {V1 : Nat → Value → Prop} {St : Nat → Shared → Prop}
/-- what walks over texts lays them all into the set -/
theorem walk_into (W : WalksS P w A.in1 J fp wr G m V1 St) {S : Addr} (off : S ∉ fp) (xs : List Str) (len : xs.length = m) (few : m + 1 < scanBound) (text : ∀ i v, V1 i v → ∃ t, v = .str (xs.getD i Str.empty) t) :
    ∀ (left i : Nat) (s : Shared), i + left = m → St i s → TextSet P w s.heap S (xs.take i) → (∀ s', Moved (S :: wr) G s s' → TextSet P w s'.heap S xs → R (.ok (.ret .none)) s') →
      codeAny (model P w) A (.builtin "set.update.loop" ⟨[.ref S, .ref J], []⟩) R s := by
  have offw : S ∉ wr := fun z => off (W.sub _ z)
  have more : ∀ b ∈ wr, b ∈ S :: wr := fun b z => List.mem_cons_of_mem _ z
  intro left
  induction left with
  | zero =>
    intro i s hi here has fin
    have e : i = m := by omega
    subst e
    rw [List.take_of_length_le (by omega)] at has
    refine codeAny_builtin PyProof.Rows.F.entry_set_update_loop ?_
    rw [Around.under_plainId PyProof.Rows.F.plain_set_update_loop]
    change wpAny _ A.in1 (pyNext (.ref J) >>= _) _ _ _
    refine wpAny_bind (W.done s _ _ here fun s1 mv => ?_)
    change wpAny _ A.in1 (ret Value.none) _ _ _
    exact wpAny_pure (fin s1 (mv.mono more) (has.at fun o ho => mv.heap S o offw ho))
  | succ left again =>
    intro i s hi here has fin
    refine codeAny_builtin PyProof.Rows.F.entry_set_update_loop ?_
    rw [Around.under_plainId PyProof.Rows.F.plain_set_update_loop]
    change wpAny _ A.in1 (pyNext (.ref J) >>= _) _ _ _
    refine wpAny_bind (W.item i s _ _ (by omega) here fun v s1 hv next mv => ?_)
    obtain ⟨t, rfl⟩ := text i v hv
    have has1 := has.at (h' := s1.heap) fun o ho => mv.heap S o offw ho
    generalize hx : xs.getD i Str.empty = x
    have hlt : i < xs.length := by omega
    have tk1 : xs.take (i + 1) = xs.take i ++ [x] := by
      rw [← hx, List.getD_eq_getElem?_getD, List.getElem?_eq_getElem hlt, List.take_succ_eq_append_getElem hlt]
      rfl
    change wpAny _ A.in1 (holding [Value.str x t] (setAdd S (.str x t)) >>= _) _ _ _
    refine wpAny_bind (wpAny_holding ?_)
    unfold setAdd
    refine wpAny_holding (wpAny_bind ((strKind P w).pyHash (k := x) (strKind_is _ _ _ _) ?_))
    obtain ⟨n, hs, hn, hnd⟩ := has1
    have hl : (xs.take i).length = i := by rw [List.length_take]; omega
    refine wpAny_setAddHashed_of (knd := strKind P w) (s := { s1 with toks := s1.toks + 1 }) (strKind_is _ _ _ _) rfl hs (by omega) fun h2 but hs2 => ?_
    have has2 : TextSet P w h2 S (xs.take (i + 1)) := by
      rw [tk1]
      refine ⟨_, SetOf_congr hs2 (S' := fun k => decide (k ∈ xs.take i ++ [x])) (fun k => ?_) rfl, ?_, ?_⟩
      · simp
      · rw [List.length_append, List.length_singleton]
        split <;> omega
      · rw [nodup_app, List.length_append, List.length_singleton, ← hnd]
        by_cases hm : x ∈ xs.take i
        · rw [if_pos (decide_eq_true hm)]
          constructor
          · intro z
            omega
          · intro z
            exact absurd hm z.2
        · rw [if_neg (by simp [hm])]
          constructor
          · intro z
            exact ⟨by omega, hm⟩
          · intro z
            omega
    refine wpAny_pure ⟨plainId_quiet PyProof.Rows.F.plain_set_update_loop _, again (i + 1) _ (by omega) (W.frame _ s1 _ _ next (Nat.le_succ _) fun b z o e => ?_) has2 fun s2 mv2 has3 => ?_⟩
    · rw [but.2 b (fun y => off (y ▸ z))]
      exact e
    · refine fin s2 (Moved.trans W.gtrans ((mv.mono more).then_heap (Nat.le_succ _) fun b o z e => ?_) mv2) has3
      rw [but.2 b (fun y => z (y ▸ List.mem_cons_self))]
      exact e
end
/-- a set as it is made, with nothing in it -/
abbrev bareSet (led : Bool) : Obj := { cls := .type "set", dict := none, data := .set #[] 0 (.fresh 0 0 led) }
section
variable {P : Program} {w : World} {A : Around} {E : Value → Shared → Prop} {s : Shared} {l : Addr} {its : Array Value} {xs : List Str} {Q : Value → Shared → Prop}
theorem bare_has {h : Heap} {S : Addr} {led : Bool} (e : h.get? S = some (bareSet led)) : TextSet P w h S [] := by
  refine ⟨0, SetOf_congr (S' := fun k => decide (k ∈ ([] : List Str))) ((setObjOf_fresh (knd := strKind P w) led).setOf e (by decide)) (fun k => by simp) rfl, Nat.le_refl _, by simp⟩
/-- set(texts) of a list -/
theorem set_list (calm : A.handled = none) (hl : s.heap.IsList l its) (hx : StrsAre its.toList xs) (few : its.size + 1 < scanBound)
    (told : ∀ (h2 : Heap) (tk : Nat), TextSet P w h2 s.heap.objs.size xs → (∀ b o, b < s.heap.objs.size → s.heap.get? b = some o → h2.get? b = some o) → Q (.ref s.heap.objs.size) { s with heap := h2, toks := tk }) :
    wpAny (model P w) A (call (.type "set") [.ref l]) Q E s := by
  have made := PySem.F.called_set
  obtain ⟨top, rest, mro⟩ := made.mro
  have y1 := made.made
  have y2 := made.sub
  have y3 := made.notType
  have y4 := made.canCreate
  have y5 := PySem.F.typeCall_set_1 (.ref l)
  refine wpAny_call (codeAny_of_tree ?_)
  change wpAny _ _ (callAny (.type "set") _) _ _ _
  refine wpAny_pure ⟨Code.quiet_builtin _ (by decide +kernel), codeAny_builtin PySem.F.entry_type_call ?_⟩
  rw [Around.under_plain (weight_type_call_type "set" [.ref l] []) rfl]
  repeat (any_goals (first | assumption | wp_step))
  refine codeAny_mono (code_set_new_1 (.ref l) (E := E) (Q₁ := fun v s1 => ∃ led : Bool, v = .ref s.heap.objs.size ∧ s1 = { s with heap := s.heap.push (bareSet led) }) fun led => ⟨led, rfl, rfl⟩) fun r s1 got => ?_
  match r, got with
  | .error e, got => exact got
  | .ok .next, got => exact got.elim
  | .ok .brk, got => exact got.elim
  | .ok .cont, got => exact got.elim
  | .ok (.ret v), got =>
    obtain ⟨led, rfl, rfl⟩ := got
    have at1 : (s.heap.push (bareSet led)).get? s.heap.objs.size = some (bareSet led) := Heap.get?_push_size _ rfl
    have ty1 : Shared.TypeIs { s with heap := s.heap.push (bareSet led) } (.ref s.heap.objs.size) "set" := ⟨_, at1, rfl⟩
    have y6 := made.init.lookup
    have y7 := made.init.bind (.ref s.heap.objs.size)
    repeat (any_goals (first | assumption | wp_step))
    refine codeAny_mono (codeAny_call_builtin (R := wants (fun u s2 => u = .none ∧ ∃ h2 tk, s2 = { s with heap := h2, toks := tk } ∧ TextSet P w h2 s.heap.objs.size xs ∧ ∀ b o, b < s.heap.objs.size → s.heap.get? b = some o → h2.get? b = some o) E) made.init.plain PySem.F.entry_set_init (check_set_init_1 ty1 ?_)) fun r2 s2 got2 => ?_
    · obtain ⟨ob, at2, cl, nn, dt⟩ := hl
      obtain ⟨_, od, _, os⟩ := ob
      simp only at cl dt
      subst cl dt
      have at3 := Heap.get?_push_of_some (bareSet led) at2
      have y8 := PySem.F.sub_list_set
      have y9 := PySem.F.sub_list_frozenset
      have y0 : (Value.type "list" == Value.type "dict") = false := by decide
      have lst1 : (s.heap.push (bareSet led)).IsList l its := ⟨_, at3, rfl, nn, rfl⟩
      unfold Builtin.«set.__init__» noKeywords Builtin.Frozenset.updateFrom
      generalize hit : pyIter = it
      wp_walk
      subst hit
      refine wpAny_pyIter_list lst1 (wpAny_bind (wpAny_runValue ?_))
      have low : l < s.heap.objs.size := Heap.lt_size at2
      have apart : l ≠ (s.heap.push (bareSet led)).objs.size := by
        rw [Heap.size_push]
        exact Nat.ne_of_lt (Nat.lt_succ_of_lt low)
      have off : s.heap.objs.size ∉ [(s.heap.push (bareSet led)).objs.size, l] := by
        rw [Heap.size_push]
        simp only [List.mem_cons, List.not_mem_nil, or_false, not_or]
        exact ⟨Nat.ne_of_lt (Nat.lt_succ_self _), Nat.ne_of_gt low⟩
      have len : xs.length = its.size := by
        rw [← StrsAre.len_eq hx, Array.length_toList]
      refine walk_into ((Walks.list (by simp [calm]) _ l apart its).toS) off xs len few (fun i v hv => SS.strs_at hx i v (by rw [Array.getElem?_toList]; exact hv)) its.size 0 _ (by omega) ⟨⟨_, Heap.get?_push_size _ rfl, rfl, rfl⟩, lst1.push _⟩ ?first ?last
      case first =>
        exact bare_has (led := led) (Heap.get?_push_of_some _ at1)
      case last =>
        intro s3 mv has
        obtain ⟨h3, g3, d3, t3, o3⟩ := s3
        have e1 : g3 = s.gens := mv.gens
        have e2 : d3 = s.drawn := mv.drawn
        have e3 : o3 = s.os := mv.os
        subst e1 e2 e3
        change wpAny _ _ _ _ _ _
        refine wpAny_pure ?_
        change wpAny _ _ (ret Value.none) _ _ _
        refine wpAny_pure ⟨rfl, h3, t3, rfl, has, fun b o lt e => mv.heap b o ?_ (Heap.get?_push_of_some _ (Heap.get?_push_of_some _ e))⟩
        rw [Heap.size_push]
        simp only [List.mem_cons, List.not_mem_nil, or_false, not_or]
        exact ⟨Nat.ne_of_lt lt, Nat.ne_of_lt (Nat.lt_succ_of_lt lt)⟩
    · match r2, got2 with
      | .error e, got2 => exact got2
      | .ok .next, got2 => exact got2.elim
      | .ok .brk, got2 => exact got2.elim
      | .ok .cont, got2 => exact got2.elim
      | .ok (.ret u), got2 =>
        obtain ⟨rfl, h2, tk, rfl, has, old⟩ := got2
        repeat (any_goals (first | assumption | wp_step))
        exact told h2 tk has old
end
end NL
/-! a set of whole numbers, of a list; how many are in it -/
namespace NL
open PySem PySem.Spec PyProof.Rows L2 Evl
/-- of so many numbers in it -/
def CntI (n : Nat) (xs : List Int) : Prop := (n = 0 ↔ xs = []) ∧ (n ≤ 1 ↔ ∀ a ∈ xs, ∀ b ∈ xs, a = b) ∧ n ≤ xs.length
def IntSet (P : Program) (w : World) (h : Heap) (S : Addr) (xs : List Int) : Prop := ∃ n, h.SetOf (intKind P w) S (fun k => decide (k ∈ xs)) n ∧ CntI n xs
theorem IntSet.at {P : Program} {w : World} {h h' : Heap} {S : Addr} {xs : List Int} (t : IntSet P w h S xs) (k : ∀ o, h.get? S = some o → h'.get? S = some o) : IntSet P w h' S xs := by
  obtain ⟨n, ⟨o, es, ep, tb, ho, rest⟩, r⟩ := t
  exact ⟨n, ⟨o, es, ep, tb, k _ ho, rest⟩, r⟩
end NL
/-! sequences against empty ones; xs[::-1] of a tuple; data with their dicts, repr and str of them -/
namespace NL
open PySem PySem.Spec PyProof.Rows L2 Evl
/-! ### xs[::-1] of a tuple -/
/-! ### data with all that is in them -/
mutual
inductive Dy (K : PySem.W.Frag) (H : Hp) : V → PyData → Prop
  | non : Dy K H .non .none
  | bl (b : Bool) : Dy K H (.bl b) (.bool b)
  | int (i : Int) : Dy K H (.int i) (.int i)
  | str (x : Str) : Dy K H (.str x) (.str x)
  | lst {a : Addr} {xs : List V} {ds : List PyData} : H a = some (.lst xs) → DyAll K H xs ds → Dy K H (.ref a) (.list ds)
  | tup {a : Addr} {xs : List V} {ds : List PyData} : SqT K H a xs → DyAll K H xs ds → Dy K H (.ref a) (.tuple ds)
  | dct {a : Addr} : H a = some (.dK []) → Dy K H (.ref a) (.dict [])
  | dc1 {a : Addr} {z : Str} {v : V} {d : PyData} : H a = some (.dK [(Sum.inr z, v)]) → Dy K H v d → Dy K H (.ref a) (.dict [(.str z, d)])
inductive DyAll (K : PySem.W.Frag) (H : Hp) : List V → List PyData → Prop
  | nil : DyAll K H [] []
  | cons {v : V} {vs : List V} {d : PyData} {ds : List PyData} : Dy K H v d → DyAll K H vs ds → DyAll K H (v :: vs) (d :: ds)
end
mutual
theorem dy_mono {K : PySem.W.Frag} {H H' : Hp} (e : Ex H H') : ∀ {d : PyData} {v : V}, Dy K H v d → Dy K H' v d
  | .none, _, h => by cases h; exact .non
  | .bool b, _, h => by cases h; exact .bl b
  | .int i, _, h => by cases h; exact .int i
  | .str x, _, h => by cases h; exact .str x
  | .list ds, _, h => by
    cases h with
    | lst hs ha => exact .lst (e _ _ hs) (dya_mono e ha)
  | .tuple ds, _, h => by
    cases h with
    | tup hs ha => exact .tup (ex_t e hs) (dya_mono e ha)
  | .dict [], _, h => by
    cases h with
    | dct hd => exact .dct (e _ _ hd)
  | .dict [(.str z, d)], _, h => by
    cases h with
    | dc1 hd hv => exact .dc1 (e _ _ hd) (dy_mono e hv)
theorem dya_mono {K : PySem.W.Frag} {H H' : Hp} (e : Ex H H') : ∀ {ds : List PyData} {vs : List V}, DyAll K H vs ds → DyAll K H' vs ds
  | [], _, h => by cases h; exact .nil
  | d :: ds, _, h => by
    cases h with
    | cons h1 h2 => exact .cons (dy_mono e h1) (dya_mono e h2)
end
mutual
theorem dy_dx {K : PySem.W.Frag} {H : Hp} : ∀ {d : PyData} {v : V}, Dy K H v d → Dx K H v d
  | .none, _, h => by cases h; exact .non
  | .bool b, _, h => by cases h; exact .bl b
  | .int i, _, h => by cases h; exact .int i
  | .str x, _, h => by cases h; exact .str x
  | .list ds, _, h => by
    cases h with
    | lst hs ha => exact .lst (sq_of hs) (dya_dx ha)
  | .tuple ds, _, h => by
    cases h with
    | tup hs ha => exact .tup hs (dya_dx ha)
  | .dict kvs, _, h => by
    cases h with
    | dct hd => exact .dct hd
    | dc1 hd _ => exact .dct hd
theorem dya_dx {K : PySem.W.Frag} {H : Hp} : ∀ {ds : List PyData} {vs : List V}, DyAll K H vs ds → DxAll K H vs ds
  | [], _, h => by cases h; exact .nil
  | d :: ds, _, h => by
    cases h with
    | cons h1 h2 => exact .cons (dy_dx h1) (dya_dx h2)
end
theorem pairs_one {P : Program} {w : World} {es : List DictEntry} {q : Key × Value} (h : Pairs (mixKind P w) es [q]) : ∃ en : DictEntry, es = [en] ∧ (mixKind P w).is q.1 en.key = true ∧ en.val = q.2 := by
  cases h with
  | cons h1 h2 t =>
    cases t
    exact ⟨_, rfl, h1, h2⟩
theorem key_str {P : Program} {w : World} {z : Str} {v : Value} (h : (mixKind P w).is (Sum.inr z) v = true) : ∃ t, v = .str z t := by
  rcases keyIs_shape (k := Sum.inr z) (v := v) h with ⟨i, t, e, _⟩ | ⟨x, t, e, r⟩
  · cases e
  · cases e
    exact ⟨t, r⟩
/-- the modules' dict lies apart from all that is made here -/
def Sy (K : PySem.W.Frag) (H : Hp) : Prop := (∃ o, K.lookup sysModules = some o) ∨ ∃ o u, H sysModules = some (.frz o u)
theorem Sy.ex {K : PySem.W.Frag} {H H' : Hp} (h : Sy K H) (e : Ex H H') : Sy K H' := by
  rcases h with h | ⟨o, u, h⟩
  · exact Or.inl h
  · exact Or.inr ⟨o, u, e _ _ h⟩
theorem Sy.kp {K : PySem.W.Frag} {H H' : Hp} {h l : Addr} (y : Sy K H) (A : Hand H h l) (k : Kp h l H H') : Sy K H' := by
  rcases y with y | ⟨o, u, y⟩
  · exact Or.inl y
  · obtain ⟨n, m⟩ := A.off y (fun _ z => by cases z)
    exact Or.inr ⟨o, u, k _ _ n m y⟩
section
variable {X : Cx} {pins : List (Addr × Obj)} {σ : L2.St} {H : Hp} {s : Shared}
theorem Sy.ne (I : Inv X pins σ H s) (y : Sy X.K H) {a : Addr} {o : HO} (h : H a = some o) (no : ∀ ob u, o ≠ .frz ob u) : a ≠ sysModules := by
  intro e
  subst e
  rcases y with ⟨ob, y⟩ | ⟨ob, u, y⟩
  · have := (I.bs _ _ (I.mod.kin _ _ y)).2
    rw [h] at this
    cases this
  · rw [h] at y
    cases y
    exact no _ _ rfl
mutual
theorem Dy.reads (I : Inv X pins σ H s) (y : Sy X.K H) : ∀ (d : PyData) (v : V) (u : Value), Dy X.K H v d → RelV v u → ∃ as, Reads s.heap u d as ∧ sysModules ∉ as
  | .none, _, _, h, r => by
    cases h
    cases r
    exact ⟨_, .none, by simp⟩
  | .bool b, _, _, h, r => by
    cases h
    cases r
    exact ⟨_, .bool b, by simp⟩
  | .int i, _, _, h, r => by
    cases h
    obtain ⟨t, rfl⟩ := r
    exact ⟨_, .int i t, by simp⟩
  | .str x, _, _, h, r => by
    cases h
    obtain ⟨t, rfl⟩ := r
    exact ⟨_, .str x t, by simp⟩
  | .list ds, _, _, h, r => by
    cases h with
    | lst hs ha =>
      cases r
      have ne := Sy.ne I y hs (fun _ _ z => by cases z)
      obtain ⟨its, rv, ⟨o, n, ho, hc, _, hd⟩, _⟩ := I.list (sq_of hs)
      obtain ⟨as, hr, hn⟩ := Dy.readsAll I y ds _ its ha rv
      exact ⟨_, .list ho hc hd hr, by simp only [List.mem_cons, not_or]; exact ⟨fun z => ne z.symm, hn⟩⟩
  | .tuple ds, _, _, h, r => by
    cases h with
    | tup hs ha =>
      cases r
      obtain ⟨its, rv, ⟨o, ho, hc, n, hd⟩, _⟩ := I.tuple hs
      obtain ⟨as, hr, hn⟩ := Dy.readsAll I y ds _ its ha rv
      exact ⟨_, .tuple ho hc hd hr, hn⟩
  | .dict [(.str z, d)], _, _, h, r => by
    cases h with
    | dc1 hd hv =>
      cases r
      obtain ⟨_, low, vs, rel, o, es, ep, ho, hex, hdt, hks, hp, _⟩ := dk_of I.hok hd
      have ne : ¬ sysModules = _ := fun z => (beq_eq_false_iff_ne.mp low) z.symm
      obtain ⟨q, rfl, hq1, hq2⟩ : ∃ q : Key × Value, vs = [q] ∧ (Sum.inr z : Key) = q.1 ∧ RelV _ q.2 := by
        cases rel with
        | cons r t =>
          cases t
          exact ⟨_, rfl, r.1, r.2⟩
      obtain ⟨en, he, hk, hval⟩ : ∃ en : DictEntry, es.toList = [en] ∧ (mixKind X.prog X.w).is q.1 en.key = true ∧ en.val = q.2 := pairs_one hp
      have hkey : ∃ t, en.key = .str z t := by
        rw [← hq1] at hk
        exact key_str hk
      obtain ⟨t, hkey⟩ := hkey
      obtain ⟨as, rd, hn⟩ := Dy.reads I y d _ _ hv (by rw [← hval] at hq2; exact hq2)
      have rk : Reads s.heap en.key (.str z) [] := by
        rw [hkey]
        exact .str z t
      refine ⟨_, .dict (kvs := [(.str z, d)]) ho hex.1 hdt (by rw [he]; exact .cons rk .nil) (by rw [he]; exact .cons rd .nil), ?_⟩
      simp only [List.append_nil, List.mem_append, List.mem_cons, List.not_mem_nil, or_false, not_or]
      exact ⟨ne, hn⟩
  | .dict [], _, _, h, r => by
    cases h with
    | dct hd =>
      cases r
      obtain ⟨_, low, vs, rel, o, es, ep, ho, hex, hdt, _, hp, _⟩ := dk_of I.hok hd
      cases rel
      have e0 : es.toList = [] := by
        cases h0 : es.toList with
        | nil => rfl
        | cons e r => rw [h0] at hp; cases hp
      have ne : ¬ sysModules = _ := fun z => (beq_eq_false_iff_ne.mp low) z.symm
      refine ⟨_, .dict (kvs := []) (as := []) (bs := []) ho hex.1 hdt (by rw [e0]; exact .nil) (by rw [e0]; exact .nil), ?_⟩
      simp only [List.append_nil, List.mem_singleton]
      exact ne
theorem Dy.readsAll (I : Inv X pins σ H s) (y : Sy X.K H) : ∀ (ds : List PyData) (vs : List V) (us : List Value), DyAll X.K H vs ds → Vals vs us → ∃ as, ReadsAll s.heap us ds as ∧ sysModules ∉ as
  | [], _, _, h, r => by
    cases h
    cases r
    exact ⟨_, .nil, by simp⟩
  | d :: ds, _, _, h, r => by
    cases h with
    | cons h1 h2 =>
      cases r with
      | cons r1 r2 =>
        obtain ⟨as, q1, n1⟩ := Dy.reads I y d _ _ h1 r1
        obtain ⟨bs, q2, n2⟩ := Dy.readsAll I y ds _ _ h2 r2
        exact ⟨_, .cons q1 q2, by rw [List.mem_append]; exact fun z => z.elim n1 n2⟩
end
end
/-- data whose text fits, dicts among them -/
def showsY (d : PyData) : Prop := d.showable = true ∧ d.depth ≤ 64 ∧ d.shown.length ≤ 10000000
def rReprY (K : PySem.W.Frag) : List V → Hp → VK → Prop := fun xs H Q => ∃ v d, xs = [v] ∧ Dy K H v d ∧ showsY d ∧ Sy K H ∧ Q (.str d.shown) H
section
variable {X : Cx} {K : PySem.W.Frag}
theorem reprYK (h : X.K = K) (quiet : X.A.guards = some []) (room : X.A.units + 100 < cLine) : CallR X (.builtin "repr") (rReprY K) := by
  subst h
  intro pins s σ H xs us Q I rel told
  obtain ⟨v, d, rfl, data, ⟨s1, s3, s4⟩, y, q⟩ := told
  obtain ⟨u, rfl, ru⟩ := vals1 rel
  have s5 : d.shown.length ≤ sizeLine := Nat.le_trans s4 (by decide)
  have fin : ∀ (s' : Shared) (t : Tok), Inv X pins σ H s' → EP X pins σ Q (.str d.shown t) s' := fun s' t I' => ⟨.str d.shown, H, I', ⟨t, rfl⟩, q⟩
  have heap : ∀ a, u = .ref a → wpAny (model X.prog X.w) X.A (call (.builtin "repr") [u]) (EP X pins σ Q) X.xe s := by
    rintro a rfl
    obtain ⟨as, reads, no⟩ := Dy.reads I y d v _ data ru
    exact repr_of_reads' reads s1 (fun _ => no) quiet (by omega) (fun b o e => e) (fun h' u tk kept => fin _ _ (I.kept kept)) s5
  cases data with
  | non =>
    cases ru
    refine PySem.P.repr_of_none ?_
    have := fin { s with toks := s.toks + 1 } s.toks (I.tok _)
    simp only [PyData.shown] at this
    exact this
  | bl b =>
    cases ru
    refine PySem.P.repr_of_bool ?_
    have := fin { s with toks := s.toks + 1 } s.toks (I.tok _)
    simp only [PyData.shown] at this
    exact this
  | int i =>
    obtain ⟨t, rfl⟩ := ru
    refine PySem.P.repr_of_int (by simpa [PyData.showable] using s1) ?_
    have := fin { s with toks := s.toks + 1 } s.toks (I.tok _)
    simp only [PyData.shown] at this
    exact this
  | str x =>
    obtain ⟨t, rfl⟩ := ru
    simp only [PyData.shown] at s5
    refine PySem.P.repr_of_str ?_ s5
    have := fin { s with toks := s.toks + 1 } s.toks (I.tok _)
    simp only [PyData.shown] at this
    exact this
  | lst _ _ => cases ru; exact heap _ rfl
  | tup _ _ => cases ru; exact heap _ rfl
  | dct _ => cases ru; exact heap _ rfl
  | dc1 _ _ => cases ru; exact heap _ rfl
end
end NL
/-! how much a datum weighs, which signs and numbers are in it; what is set aside of a heap -/
namespace NL
open PySem PySem.Spec PyProof.Rows L2 Evl
def asc (x : Str) : Prop := ∀ c ∈ x.cps.toList, c < 128
theorem asc_app {a b : Str} (ha : asc a) (hb : asc b) : asc (a ++ b) := fun c hc => by
  rcases mem_cps_append.mp hc with h | h
  · exact ha c h
  · exact hb c h
theorem asc_join {sep : Str} (hs : asc sep) {ts : List Str} (ht : ∀ t ∈ ts, asc t) : asc (Str.join sep ts) := fun c hc => by
  rcases (mem_join sep c ts).mp hc with ⟨t, h1, h2⟩ | ⟨_, h⟩
  · exact ht t h1 c h2
  · exact hs c h
theorem asc_lit {s : String} (h : s.toList.all (fun c => decide (c.toNat < 128)) = true) : asc (Str.ofString s) := fun c hc => by
  rw [signs_ofString] at hc
  obtain ⟨ch, h1, rfl⟩ := List.mem_map.mp hc
  exact of_decide_eq_true (List.all_eq_true.mp h ch h1)
theorem asc_int (i : Int) : asc (Str.ofString (toString i)) := fun c hc => by
  rw [signs_ofString] at hc
  obtain ⟨ch, h1, rfl⟩ := List.mem_map.mp hc
  rcases int_sign i ch h1 with h | h
  · have := digit_range h
    omega
  · subst h
    decide
theorem asc_from : ∀ {ts : List Str} {k : Nat} {acc : Str}, asc acc → (∀ t ∈ ts, asc t) → asc (textFrom k acc ts)
  | [], _, _, h, _ => h
  | t :: ts, k, acc, h, ht => by
    unfold textFrom
    refine asc_from (asc_app (asc_app h ?_) (ht t (List.mem_cons_self ..))) fun u hu => ht u (List.mem_cons_of_mem _ hu)
    split
    · exact asc_lit (by decide)
    · exact asc_lit (by decide)
theorem char_asc : ∀ q, q = 34 ∨ q = 39 → ∀ c, c < 128 → ∀ x ∈ Builtin.Str.reprChar q c, x < 128 := by
  have h : ((List.range 128).all fun c => ((Builtin.Str.reprChar 34 c).all fun x => decide (x < 128)) && ((Builtin.Str.reprChar 39 c).all fun x => decide (x < 128))) = true := by decide +kernel
  intro q hq c hc x hx
  have h1 := List.all_eq_true.mp h c (List.mem_range.mpr hc)
  rw [Bool.and_eq_true] at h1
  rcases hq with rfl | rfl
  · exact of_decide_eq_true (List.all_eq_true.mp h1.1 x hx)
  · exact of_decide_eq_true (List.all_eq_true.mp h1.2 x hx)
theorem asc_repr {x : Str} (h : asc x) : asc (reprText x) := by
  have hq : reprQuote x = 34 ∨ reprQuote x = 39 := by
    unfold reprQuote
    split
    · exact Or.inl rfl
    · exact Or.inr rfl
  have q1 : reprQuote x < 128 := by rcases hq with h | h <;> omega
  have all : ∀ (l : List Nat) (acc : Array Nat), (∀ c ∈ acc.toList, c < 128) → (∀ c ∈ l, c < 128) → ∀ c ∈ (l.foldl (fun out c => out ++ (Builtin.Str.reprChar (reprQuote x) c).toArray) acc).toList, c < 128 := by
    intro l
    induction l with
    | nil => intro acc ha _; exact ha
    | cons a l ih =>
      intro acc ha hl
      rw [List.foldl_cons]
      refine ih _ (fun c hc => ?_) fun c hc => hl c (List.mem_cons_of_mem _ hc)
      rw [Array.toList_append] at hc
      rcases List.mem_append.mp hc with hc | hc
      · exact ha c hc
      · exact char_asc _ hq a (hl a (List.mem_cons_self ..)) c (by simpa using hc)
  intro c hc
  unfold reprText at hc
  simp only [Array.toList_push, List.mem_append, List.mem_singleton] at hc
  rcases hc with hc | hc
  · rw [← Array.foldl_toList] at hc
    exact all _ #[reprQuote x] (fun c hc => by simp at hc; omega) h c hc
  · omega
mutual
def wt : PyData → Nat
  | .str s => 10 * s.length + 10
  | .int _ => 60
  | .list ds => wts ds + 10
  | .tuple ds => wts ds + 10
  | .dict kvs => wtk kvs + 10
  | _ => 10
def wts : List PyData → Nat
  | [] => 0
  | d :: ds => wt d + wts ds
def wtk : List (PyData × PyData) → Nat
  | [] => 0
  | (k, v) :: r => wt k + wt v + wtk r
end
mutual
def okD (B : Nat) : PyData → Prop
  | .str s => asc s
  | .int i => i.natAbs ≤ B
  | .list ds => okDs B ds
  | .tuple ds => okDs B ds
  | .dict kvs => okK B kvs
  | _ => True
def okDs (B : Nat) : List PyData → Prop
  | [] => True
  | d :: ds => okD B d ∧ okDs B ds
def okK (B : Nat) : List (PyData × PyData) → Prop
  | [] => True
  | (k, v) :: r => okD B k ∧ okD B v ∧ okK B r
end
theorem list_len (ts : List Str) : (listText ts).length ≤ (ts.map fun t => t.length + 2).sum + 3 := by
  have all : ∀ (ts : List Str) (k : Nat) (acc : Str), (textFrom k acc ts).length ≤ acc.length + (ts.map fun t => t.length + 2).sum := by
    intro ts
    induction ts with
    | nil => intro k acc; simp [textFrom]
    | cons t ts ih =>
      intro k acc
      have h := ih (k + 1) (acc ++ (if k > 0 then ", " else "" : String) ++ t)
      have e : (Str.ofString (if k > 0 then ", " else "" : String)).length ≤ 2 := by
        split
        · decide +kernel
        · decide +kernel
      rw [Str.length_append, Str.length_append] at h
      simp only [textFrom, List.map_cons, List.sum_cons]
      omega
  unfold listText
  rw [Str.length_append]
  have h := all ts 0 "["
  have e1 : ("[" : Str).length = 1 := by decide +kernel
  have e2 : (Str.ofString "]").length = 1 := by decide +kernel
  omega
mutual
/-- what a datum's text has -/
theorem text_facts {B : Nat} (hB : B < 2 ^ 44) : ∀ d : PyData, okD B d → d.showable = true ∧ d.shown.length + 2 ≤ wt d ∧ asc d.shown
  | .none, _ => ⟨by simp [PyData.showable], by simp only [PyData.shown, wt]; decide +kernel, by simp only [PyData.shown]; exact asc_lit (by decide)⟩
  | .bool b, _ => by
    refine ⟨by simp [PyData.showable], ?_, ?_⟩
    · simp only [PyData.shown, wt]
      cases b
      · decide +kernel
      · decide +kernel
    · simp only [PyData.shown]
      cases b
      · exact asc_lit (by decide)
      · exact asc_lit (by decide)
  | .int i, h => by
    simp only [okD] at h
    have bl : i.natAbs.log2 < 44 := by
      by_cases h0 : i.natAbs = 0
      · rw [h0]; decide
      · exact (Nat.log2_lt h0).mpr (by omega)
    refine ⟨?_, ?_, ?_⟩
    · simp only [PyData.showable, decide_eq_true_eq]
      omega
    · simp only [PyData.shown, wt]
      have := int_text_length_le (a := i) (k := 44) (by decide) bl
      rw [PySem.ofString_length]
      omega
    · simp only [PyData.shown]
      exact asc_int i
  | .str s, h => by
    simp only [okD] at h
    refine ⟨by simp [PyData.showable], ?_, ?_⟩
    · simp only [PyData.shown, wt]
      have := StrLaws.reprText_len s (fun c hc => Nat.lt_trans (h c hc) (by decide))
      omega
    · simp only [PyData.shown]
      exact asc_repr h
  | .list ds, h => by
    simp only [okD] at h
    obtain ⟨i1, i2, i3⟩ := texts_facts hB ds h
    refine ⟨by simp only [PyData.showable]; exact i1, ?_, ?_⟩
    · simp only [PyData.shown, wt, shownAll_map]
      have := list_len (ds.map PyData.shown)
      omega
    · simp only [PyData.shown, shownAll_map]
      exact asc_app (asc_from (asc_lit (by decide)) i3) (asc_lit (by decide))
  | .tuple ds, h => by
    simp only [okD] at h
    obtain ⟨i1, i2, i3⟩ := texts_facts hB ds h
    refine ⟨by simp only [PyData.showable]; exact i1, ?_, ?_⟩
    · simp only [PyData.shown, wt, shownAll_map]
      have := tuple_len (ds.map PyData.shown)
      omega
    · simp only [PyData.shown, shownAll_map]
      refine asc_app (asc_app (asc_lit (by decide)) (asc_join (asc_lit (by decide)) i3)) ?_
      split
      · exact asc_lit (by decide)
      · exact asc_lit (by decide)
  | .dict kvs, h => by
    simp only [okD] at h
    obtain ⟨i1, i2, i3⟩ := textk_facts hB kvs h
    refine ⟨by simp only [PyData.showable]; exact i1, ?_, ?_⟩
    · simp only [PyData.shown, wt, dictText]
      rw [Str.length_append, Str.length_append]
      have e1 : ("{" : Str).length = 1 := by decide +kernel
      have e2 : (Str.ofString "}").length = 1 := by decide +kernel
      have e3 : (", " : Str).length = 2 := by decide +kernel
      have hj := join_len ", " (PyData.shownKv kvs)
      rw [e3] at hj
      omega
    · simp only [PyData.shown, dictText]
      exact asc_app (asc_app (asc_lit (by decide)) (asc_join (asc_lit (by decide)) i3)) (asc_lit (by decide))
theorem texts_facts {B : Nat} (hB : B < 2 ^ 44) : ∀ ds : List PyData, okDs B ds → PyData.showableAll ds = true ∧ ((ds.map PyData.shown).map fun t => t.length + 2).sum ≤ wts ds ∧ ∀ t ∈ ds.map PyData.shown, asc t
  | [], _ => by simp [PyData.showableAll, wts]
  | d :: ds, h => by
    simp only [okDs] at h
    obtain ⟨i1, i2, i3⟩ := text_facts hB d h.1
    obtain ⟨j1, j2, j3⟩ := texts_facts hB ds h.2
    refine ⟨by simp only [PyData.showableAll, i1, j1]; rfl, ?_, ?_⟩
    · simp only [List.map_cons, List.sum_cons, wts]
      omega
    · intro t ht
      rcases List.mem_cons.mp ht with rfl | ht
      · exact i3
      · exact j3 t ht
theorem textk_facts {B : Nat} (hB : B < 2 ^ 44) : ∀ kvs : List (PyData × PyData), okK B kvs → PyData.showableKv kvs = true ∧ ((PyData.shownKv kvs).map fun t => t.length + 2).sum ≤ wtk kvs ∧ ∀ t ∈ PyData.shownKv kvs, asc t
  | [], _ => by simp [PyData.showableKv, PyData.shownKv, wtk]
  | (a, b) :: r, h => by
    simp only [okK] at h
    obtain ⟨i1, i2, i3⟩ := text_facts hB a h.1
    obtain ⟨j1, j2, j3⟩ := text_facts hB b h.2.1
    obtain ⟨k1, k2, k3⟩ := textk_facts hB r h.2.2
    have e2 : (Str.ofString ": ").length = 2 := by decide +kernel
    refine ⟨by simp only [PyData.showableKv, i1, j1, k1]; rfl, ?_, ?_⟩
    · simp only [PyData.shownKv, List.map_cons, List.sum_cons, wtk, Str.length_append]
      omega
    · intro t ht
      simp only [PyData.shownKv] at ht
      rcases List.mem_cons.mp ht with rfl | ht
      · exact asc_app (asc_app i3 (asc_lit (by decide))) j3
      · exact k3 t ht
end
theorem shows_of {B W D : Nat} {d : PyData} (hB : B < 2 ^ 44) (ok : okD B d) (hw : wt d ≤ W) (hd : d.depth ≤ D) (hW : W ≤ 10000000) (hD : D ≤ 64) : showsY d := by
  obtain ⟨i1, i2, _⟩ := text_facts hB d ok
  exact ⟨i1, by omega, by omega⟩
mutual
theorem ok_up {B C : Nat} (h : B ≤ C) : ∀ d : PyData, okD B d → okD C d
  | .none, _ => by simp [okD]
  | .bool b, _ => by simp [okD]
  | .int i, k => by simp only [okD] at k ⊢; omega
  | .str s, k => by simp only [okD] at k ⊢; exact k
  | .list ds, k => by simp only [okD] at k ⊢; exact oks_up h ds k
  | .tuple ds, k => by simp only [okD] at k ⊢; exact oks_up h ds k
  | .dict kvs, k => by simp only [okD] at k ⊢; exact okk_up h kvs k
theorem oks_up {B C : Nat} (h : B ≤ C) : ∀ ds : List PyData, okDs B ds → okDs C ds
  | [], _ => by simp [okDs]
  | d :: ds, k => by simp only [okDs] at k ⊢; exact ⟨ok_up h d k.1, oks_up h ds k.2⟩
theorem okk_up {B C : Nat} (h : B ≤ C) : ∀ kvs : List (PyData × PyData), okK B kvs → okK C kvs
  | [], _ => by simp [okK]
  | (a, b) :: r, k => by simp only [okK] at k ⊢; exact ⟨ok_up h a k.1, ok_up h b k.2.1, okk_up h r k.2.2⟩
end
mutual
theorem nodes_wt : ∀ d : PyData, 10 * nodes d ≤ wt d
  | .none => by simp [nodes, wt]
  | .bool b => by simp [nodes, wt]
  | .int i => by simp [nodes, wt]
  | .str s => by simp only [nodes, wt]; omega
  | .list ds => by have := nodess_wt ds; simp only [nodes, wt]; omega
  | .tuple ds => by have := nodess_wt ds; simp only [nodes, wt]; omega
  | .dict kvs => by simp only [nodes, wt]; omega
theorem nodess_wt : ∀ ds : List PyData, 10 * nodess ds ≤ wts ds
  | [] => by simp [nodess, wts]
  | d :: ds => by have := nodes_wt d; have := nodess_wt ds; simp only [nodess, wts]; omega
end
theorem len_wts : ∀ ds : List PyData, 10 * ds.length ≤ wts ds
  | [] => by simp
  | d :: ds => by
    have := len_wts ds
    have := nodes_wt d
    have : 1 ≤ nodes d := by cases d <;> simp [nodes]
    simp only [List.length_cons, wts]
    omega
end NL
/-! some datum: a value of which it is known how much it weighs, how deep it is, what signs and numbers it has; terms that make such ones while a hand draws -/
namespace NL
open PySem PySem.Spec PyProof.Rows L2 Evl
def aside (H : Hp) (S : List Addr) : Hp := fun a => if a ∈ S then none else H a
theorem aside_at {H : Hp} {S : List Addr} {a : Addr} (h : a ∉ S) : aside H S a = H a := if_neg h
theorem aside_in {H : Hp} {S : List Addr} {a : Addr} (h : a ∈ S) : aside H S a = none := if_pos h
/-! ### a datum, and several -/
def G (K : PySem.W.Frag) (H : Hp) (v : V) (W N D B : Nat) : Prop := ∃ d, Dy K H v d ∧ wt d ≤ W ∧ nodes d ≤ N ∧ d.depth ≤ D ∧ okD B d
def GL (K : PySem.W.Frag) (H : Hp) (xs : List V) (W N D B : Nat) : Prop := ∃ ds, DyAll K H xs ds ∧ wts ds ≤ W ∧ nodess ds ≤ N ∧ PyData.depthAll ds ≤ D ∧ okDs B ds
section
variable {K : PySem.W.Frag} {H H' : Hp} {v : V} {xs ys : List V} {W N D B W' N' D' B' : Nat}
theorem G.mono (g : G K H v W N D B) (e : Ex H H') : G K H' v W N D B := by
  obtain ⟨d, h, r⟩ := g
  exact ⟨d, dy_mono e h, r⟩
theorem G.up (g : G K H v W N D B) (hW : W ≤ W') (hN : N ≤ N') (hD : D ≤ D') (hB : B ≤ B') : G K H v W' N' D' B' := by
  obtain ⟨d, h, h1, hn, h2, h3⟩ := g
  exact ⟨d, h, by omega, by omega, by omega, ok_up hB d h3⟩
theorem GL.mono (g : GL K H xs W N D B) (e : Ex H H') : GL K H' xs W N D B := by
  obtain ⟨d, h, r⟩ := g
  exact ⟨d, dya_mono e h, r⟩
theorem GL.up (g : GL K H xs W N D B) (hW : W ≤ W') (hN : N ≤ N') (hD : D ≤ D') (hB : B ≤ B') : GL K H xs W' N' D' B' := by
  obtain ⟨d, h, h1, hn, h2, h3⟩ := g
  exact ⟨d, h, by omega, by omega, by omega, oks_up hB d h3⟩
theorem GL.nil : GL K H [] W N D B := ⟨[], .nil, by simp [wts], by simp [nodess], by simp [PyData.depthAll], by simp [okDs]⟩
theorem GL.cons (a : G K H v W N D B) (b : GL K H xs W' N' D B) : GL K H (v :: xs) (W + W') (N + N') D B := by
  obtain ⟨d, h, h1, hn, h2, h3⟩ := a
  obtain ⟨ds, k, k1, kn, k2, k3⟩ := b
  exact ⟨d :: ds, .cons h k, by simp only [wts]; omega, by simp only [nodess]; omega, by simp only [PyData.depthAll]; omega, by simp only [okDs]; exact ⟨h3, k3⟩⟩
theorem dya_app : ∀ {xs ys : List V} {ds es : List PyData}, DyAll K H xs ds → DyAll K H ys es → DyAll K H (xs ++ ys) (ds ++ es)
  | _, _, _, _, .nil, h => h
  | _, _, _, _, .cons a b, h => .cons a (dya_app b h)
theorem wts_app : ∀ (ds es : List PyData), wts (ds ++ es) = wts ds + wts es
  | [], es => by simp [wts]
  | d :: ds, es => by simp only [List.cons_append, wts, wts_app ds es]; omega
theorem nds_app : ∀ (ds es : List PyData), nodess (ds ++ es) = nodess ds + nodess es
  | [], es => by simp [nodess]
  | d :: ds, es => by simp only [List.cons_append, nodess, nds_app ds es]; omega
theorem dep_app : ∀ (ds es : List PyData), PyData.depthAll (ds ++ es) = max (PyData.depthAll ds) (PyData.depthAll es)
  | [], es => by simp [PyData.depthAll]
  | d :: ds, es => by simp only [List.cons_append, PyData.depthAll, dep_app ds es]; omega
theorem okDs_app : ∀ (ds es : List PyData), okDs B (ds ++ es) ↔ okDs B ds ∧ okDs B es
  | [], es => by simp [okDs]
  | d :: ds, es => by simp only [List.cons_append, okDs, okDs_app ds es, and_assoc]
theorem GL.app (a : GL K H xs W N D B) (b : GL K H ys W' N' D B) : GL K H (xs ++ ys) (W + W') (N + N') D B := by
  obtain ⟨ds, h, h1, hn, h2, h3⟩ := a
  obtain ⟨es, k, k1, kn, k2, k3⟩ := b
  exact ⟨ds ++ es, dya_app h k, by rw [wts_app]; omega, by rw [nds_app]; omega, by rw [dep_app]; omega, (okDs_app ds es).mpr ⟨h3, k3⟩⟩
theorem dya_split : ∀ {xs ys : List V} {ds : List PyData}, DyAll K H (xs ++ ys) ds → ∃ a b, ds = a ++ b ∧ DyAll K H xs a ∧ DyAll K H ys b
  | [], ys, ds, h => ⟨[], ds, rfl, .nil, h⟩
  | x :: xs, ys, _, .cons h t => by
    obtain ⟨a, b, rfl, h1, h2⟩ := dya_split t
    exact ⟨_ :: a, b, rfl, .cons h h1, h2⟩
theorem GL.left (g : GL K H (xs ++ ys) W N D B) : GL K H xs W N D B := by
  obtain ⟨ds, h, h1, hn, h2, h3⟩ := g
  obtain ⟨a, b, rfl, k1, k2⟩ := dya_split h
  rw [wts_app] at h1
  rw [nds_app] at hn
  rw [dep_app] at h2
  exact ⟨a, k1, by omega, by omega, by omega, ((okDs_app a b).mp h3).1⟩
theorem GL.right (g : GL K H (xs ++ ys) W N D B) : GL K H ys W N D B := by
  obtain ⟨ds, h, h1, hn, h2, h3⟩ := g
  obtain ⟨a, b, rfl, k1, k2⟩ := dya_split h
  rw [wts_app] at h1
  rw [nds_app] at hn
  rw [dep_app] at h2
  exact ⟨b, k2, by omega, by omega, by omega, ((okDs_app a b).mp h3).2⟩
theorem GL.take (g : GL K H xs W N D B) (n : Nat) : GL K H (xs.take n) W N D B := GL.left (ys := xs.drop n) (by rw [List.take_append_drop]; exact g)
theorem GL.drop (g : GL K H xs W N D B) (n : Nat) : GL K H (xs.drop n) W N D B := GL.right (xs := xs.take n) (by rw [List.take_append_drop]; exact g)
theorem GL.get (g : GL K H xs W N D B) (h : v ∈ xs) : G K H v W N D B := by
  obtain ⟨a, b, rfl⟩ := List.append_of_mem h
  obtain ⟨ds, h, h1, hn, h2, h3⟩ := g.right (xs := a)
  cases h with
  | cons d r =>
    simp only [wts] at h1
    simp only [nodess] at hn
    simp only [PyData.depthAll] at h2
    simp only [okDs] at h3
    exact ⟨_, d, by omega, by omega, by omega, h3.1⟩
theorem GL.len (g : GL K H xs W N D B) : 10 * xs.length ≤ W := by
  obtain ⟨ds, h, h1, _⟩ := g
  have := len_wts ds
  have e : xs.length = ds.length := dxa_len (dya_dx h)
  omega
theorem G.tup {a : Addr} (hs : SqT K H a xs) (g : GL K H xs W N D B) : G K H (.ref a) (W + 10) (N + 1) (D + 1) B := by
  obtain ⟨ds, h, h1, hn, h2, h3⟩ := g
  exact ⟨.tuple ds, .tup hs h, by simp only [wt]; omega, by simp only [nodes]; omega, by simp only [PyData.depth]; omega, by simp only [okD]; exact h3⟩
theorem G.lst {a : Addr} (hs : H a = some (.lst xs)) (g : GL K H xs W N D B) : G K H (.ref a) (W + 10) (N + 1) (D + 1) B := by
  obtain ⟨ds, h, h1, hn, h2, h3⟩ := g
  exact ⟨.list ds, .lst hs h, by simp only [wt]; omega, by simp only [nodes]; omega, by simp only [PyData.depth]; omega, by simp only [okD]; exact h3⟩
theorem G.non : G K H .non 10 1 0 B := ⟨_, .non, by simp [wt], by simp [nodes], by simp [PyData.depth], by simp [okD]⟩
theorem G.bl (b : Bool) : G K H (.bl b) 10 1 0 B := ⟨_, .bl b, by simp [wt], by simp [nodes], by simp [PyData.depth], by simp [okD]⟩
theorem G.int {i : Int} (h : i.natAbs ≤ B) : G K H (.int i) 60 1 0 B := ⟨_, .int i, by simp [wt], by simp [nodes], by simp [PyData.depth], by simp only [okD]; exact h⟩
theorem G.str {z : Str} {n : Nat} (hn : 10 * z.length + 10 ≤ n) (h : asc z) : G K H (.str z) n 1 0 B := ⟨_, .str z, by simp only [wt]; exact hn, by simp [nodes], by simp [PyData.depth], by simp only [okD]; exact h⟩
theorem G.dct {a : Addr} (h : H a = some (.dK [])) : G K H (.ref a) 10 1 1 B := ⟨_, .dct h, by simp [wt, wtk], by simp [nodes], by simp [PyData.depth, PyData.depthKv], by simp [okD, okK]⟩
theorem G.dc1 {a : Addr} {z : Str} (h : H a = some (.dK [(Sum.inr z, v)])) (az : asc z) (g : G K H v W N D B) : G K H (.ref a) (10 * z.length + 10 + W + 10) (N + 1) (D + 1) B := by
  obtain ⟨d, hd, h1, hn, h2, h3⟩ := g
  refine ⟨_, .dc1 h hd, by simp only [wt, wtk]; omega, by simp only [nodes]; omega, by simp only [PyData.depth, PyData.depthKv]; omega, by simp only [okD, okK]; exact ⟨az, h3, trivial⟩⟩
end
/-! ### terms that give some datum while a hand draws -/
section
variable {K : PySem.W.Frag} {h l : Addr}
def EG (K : PySem.W.Frag) (h l : Addr) (W N D B : Nat) (te : TE) (σ : L2.St) (H : Hp) : Prop := ∀ H1, Kp h l H H1 → Hand H1 h l → ∀ Q : VK, (∀ v H2, Kp h l H1 H2 → Hand H2 h l → G K (aside H2 [h, l]) v W N D B → Q v H2) → te σ H1 Q
def GT (K : PySem.W.Frag) (h l : Addr) (W N D B : Nat) (te : TE) (σ : L2.St) (H : Hp) : Prop := ∀ H1, Kp h l H H1 → Hand H1 h l → ∀ Q : VK, (∀ p xs H2, Kp h l H1 H2 → Hand H2 h l → SqT K (aside H2 [h, l]) p xs → GL K (aside H2 [h, l]) xs W N D B → Q (.ref p) H2) → te σ H1 Q
variable {σ : L2.St} {H : Hp} {te tb : TE} {ta : TA} {W N D B W' N' D' B' n m : Nat}
theorem EG.up (g : EG K h l W N D B te σ H) (hW : W ≤ W') (hN : N ≤ N') (hD : D ≤ D') (hB : B ≤ B') : EG K h l W' N' D' B' te σ H := fun H1 k A Q q => g H1 k A Q fun v H2 k2 A2 g2 => q v H2 k2 A2 (g2.up hW hN hD hB)
theorem GT.up (g : GT K h l W N D B te σ H) (hW : W ≤ W') (hN : N ≤ N') (hD : D ≤ D') (hB : B ≤ B') : GT K h l W' N' D' B' te σ H := fun H1 k A Q q => g H1 k A Q fun p xs H2 k2 A2 s g2 => q p xs H2 k2 A2 s (g2.up hW hN hD hB)
end
end NL
/-! truths among numbers: True + 1, True - 1, 0 - True -/
namespace NL
open PySem PySem.Spec PyProof.Rows L2 Evl
/-! ### steps with tuples, in the heap beside the hand -/
/-! ### a place in a datum -/
/-- what is led to -/
def there : PyData → List Nat → PyData
  | d, [] => d
  | .tuple ds, i :: is => there (ds.getD i .none) is
  | d, _ :: _ => d
end NL
/-! rows of a plan with the groups' bounds -/
namespace NL
open PySem L2 Evl
/-- name, a group's bound, the groups around it -/
abbrev Rb := Str × Option Int × List Str
def obV : Option Int → V
  | none => .non
  | some b => .int b
mutual
def Tr.rows : Tr → List Str → List Rb
  | .hand n, p => [(n, none, p)]
  | .grp n b ms, p => (n, some b, p) :: rowss ms (n :: p)
def rowss : List Tr → List Str → List Rb
  | [], _ => []
  | t :: ts, p => t.rows p ++ rowss ts p
end
def plainR (r : Rb) : Rw := (r.1, r.2.1.isSome, r.2.2)
mutual
theorem rows_told : ∀ (t : Tr) (p : List Str), (t.rows p).map plainR = t.told p
  | .hand n, p => by simp [Tr.rows, Tr.told, plainR]
  | .grp n b ms, p => by simp [Tr.rows, Tr.told, plainR, rowss_told ms]
theorem rowss_told : ∀ (ts : List Tr) (p : List Str), (rowss ts p).map plainR = tolds ts p
  | [], p => by simp [rowss, tolds]
  | t :: ts, p => by simp [rowss, tolds, rows_told t, rowss_told ts]
end
theorem rows_len (t : Tr) (p : List Str) : (t.rows p).length = t.size := by rw [← told_len t p, ← rows_told, List.length_map]
theorem rowss_len (ts : List Tr) (p : List Str) : (rowss ts p).length = sizes ts := by rw [← tolds_len ts p, ← rowss_told, List.length_map]
theorem rowss_take : ∀ (ts : List Tr) (i : Nat) (t : Tr) (p : List Str), ts[i]? = some t → rowss (ts.take (i + 1)) p = rowss (ts.take i) p ++ t.rows p
  | [], _, _, _, h => by simp at h
  | u :: ts, 0, t, p, h => by
    simp at h
    subst h
    simp [rowss]
  | u :: ts, i + 1, t, p, h => by
    have ih := rowss_take ts i t p (by simpa using h)
    simp only [List.take_succ_cons, rowss]
    rw [ih, List.append_assoc]
/-- a row with its bound, in the heap -/
def RowB (H : Hp) (v : V) (r : Rb) : Prop := ∃ a pa, v = .ref a ∧ H a = some (.tup [.str r.1, obV r.2.1, .ref pa]) ∧ H pa = some (.tup (r.2.2.map V.str))
inductive RowsB (H : Hp) : List V → List Rb → Prop
  | nil : RowsB H [] []
  | cons {v : V} {vs : List V} {r : Rb} {rs : List Rb} : RowB H v r → RowsB H vs rs → RowsB H (v :: vs) (r :: rs)
theorem RowB.tk {H H' : Hp} {v : V} {r : Rb} (k : TK H H') (h : RowB H v r) : RowB H' v r := by
  obtain ⟨a, pa, e, h1, h2⟩ := h
  exact ⟨a, pa, e, k _ _ h1, k _ _ h2⟩
theorem RowsB.tk {H H' : Hp} (k : TK H H') : ∀ {vs : List V} {rs : List Rb}, RowsB H vs rs → RowsB H' vs rs
  | _, _, .nil => .nil
  | _, _, .cons a b => .cons (a.tk k) (b.tk k)
theorem RowsB.app {H : Hp} : ∀ {vs us : List V} {rs qs : List Rb}, RowsB H vs rs → RowsB H us qs → RowsB H (vs ++ us) (rs ++ qs)
  | _, _, _, _, .nil, h => h
  | _, _, _, _, .cons a b, h => .cons a (b.app h)
theorem RowsB.one {H : Hp} {v : V} {r : Rb} (h : RowB H v r) : RowsB H [v] [r] := .cons h .nil
theorem RowsB.len {H : Hp} : ∀ {vs : List V} {rs : List Rb}, RowsB H vs rs → vs.length = rs.length
  | _, _, .nil => rfl
  | _, _, .cons _ t => by rw [List.length_cons, List.length_cons, t.len]
theorem RowsB.get {H : Hp} : ∀ {vs : List V} {rs : List Rb} {i : Nat} {v : V}, RowsB H vs rs → vs[i]? = some v → ∃ r, rs[i]? = some r ∧ RowB H v r
  | _, _, _, _, .nil, e => by simp at e
  | _, _, 0, _, .cons r _, e => by simp at e; subst e; exact ⟨_, rfl, r⟩
  | _, _, i + 1, v, .cons _ t, e => by
    obtain ⟨d, h1, h2⟩ := t.get (i := i) (v := v) (by simpa using e)
    exact ⟨d, by simpa using h1, h2⟩
def handsOf (t : Tr) : List Str := ((t.told []).filter fun r => !r.2.1).map (·.1)
theorem hands_rows (t : Tr) : handsOf t = ((t.rows []).filter fun r => !r.2.1.isSome).map (·.1) := by
  unfold handsOf
  rw [← rows_told, List.filter_map, List.map_map]
  rfl
end NL
/-! trees: groups in them, paths, names told for others -/
namespace NL
open PySem L2 Evl
theorem nms_sub {t o : Tr} {p q : List Str} {A B : List Rw} (h : t.told p = A ++ o.told q ++ B) : t.nms = A.map (·.1) ++ o.nms ++ B.map (·.1) := by
  rw [← told_nms t p, h, List.map_append, List.map_append, told_nms]
/-! ### each row's path ends at the whole -/
/-! ### names told for others -/
/-! ### a tree is a plan where its names are unlike -/
end NL
namespace NL
open PySem L2 Evl
/-! ### turns, and even plans, as trees -/
mutual
def Tr.hn : Tr → Nat
  | .hand _ => 1
  | .grp _ _ ms => hns ms
def hns : List Tr → Nat
  | [] => 0
  | t :: ts => t.hn + hns ts
end
mutual
theorem told_hn : ∀ (t : Tr) (p : List Str), ((t.told p).filter fun r => !r.2.1).length = t.hn
  | .hand n, p => by simp [Tr.told, Tr.hn]
  | .grp n b ms, p => by simp [Tr.told, Tr.hn, tolds_hn ms]
theorem tolds_hn : ∀ (ts : List Tr) (p : List Str), ((tolds ts p).filter fun r => !r.2.1).length = hns ts
  | [], p => by simp [tolds, hns]
  | t :: ts, p => by simp [tolds, hns, told_hn t, tolds_hn ts]
end
theorem hands_hn (t : Tr) : (handsOf t).length = t.hn := by
  unfold handsOf
  rw [List.length_map, told_hn]
mutual
def Tr.turn : Tr → Int
  | .hand _ => 1
  | .grp _ b ms => if hns ms = 1 then 1 else b * maxs ms
def maxs : List Tr → Int
  | [] => 0
  | t :: ts => max t.turn (maxs ts)
end
mutual
theorem turn_pos : ∀ t : Tr, t.ok → 1 ≤ t.turn
  | .hand _, _ => by simp [Tr.turn]
  | .grp n b ms, h => by
    simp only [Tr.ok] at h
    simp only [Tr.turn]
    split
    · decide
    · have := maxs_pos ms h.2.2.2 h.2.2.1
      have h1 : 1 * 1 ≤ b * maxs ms := Int.mul_le_mul h.1 this (by decide) (by omega)
      simpa using h1
theorem maxs_pos : ∀ ts : List Tr, oks ts → ts ≠ [] → 1 ≤ maxs ts
  | [], _, h => (h rfl).elim
  | t :: ts, h, _ => by
    have := turn_pos t h.1
    simp only [maxs]
    omega
end
theorem maxs_ge : ∀ {ts : List Tr}, ∀ t ∈ ts, t.turn ≤ maxs ts
  | u :: ts, t, h => by
    simp only [maxs]
    rcases List.mem_cons.mp h with rfl | h
    · omega
    · have := maxs_ge t h
      omega
theorem maxs_mem : ∀ {ts : List Tr}, oks ts → ts ≠ [] → ∃ t ∈ ts, t.turn = maxs ts
  | [t], h, _ => ⟨t, by simp, by
    have := turn_pos t h.1
    simp only [maxs]
    omega⟩
  | t :: u :: ts, h, _ => by
    obtain ⟨x, hx, e⟩ := maxs_mem (ts := u :: ts) h.2 (List.cons_ne_nil _ _)
    by_cases c : t.turn ≤ maxs (u :: ts)
    · refine ⟨x, List.mem_cons_of_mem _ hx, ?_⟩
      rw [e]
      simp only [maxs] at c ⊢
      omega
    · refine ⟨t, List.mem_cons_self .., ?_⟩
      simp only [maxs] at c ⊢
      omega
section
variable {K : PySem.W.Frag} {σ : L2.St} {H : Hp} {ta : TE} {ns : List Int}
theorem maxK {X : Cx} (h : X.K = K) (hc : X.calm = true) : CallR X (.builtin "max") (rMax K) := by subst h; exact cr_max hc
theorem ev_maxN {m : Int} (h : EvL ta σ H (ns.map V.int)) (hm : m ∈ ns) (hle : ∀ y ∈ ns, y ≤ m) : Ev (tCB (rMax K) (tCons ta tNil)) σ H (.int m) := fun H1 e Q q =>
  h H1 e _ fun p H2 hp e2 h2 => ⟨p, ns, rfl, sq_of h2, List.length_pos_of_mem hm, fun x hx hx2 => by
    have : x = m := by
      have := hle x hx
      have := hx2 m hm
      omega
    rw [this]
    exact q H2 e2⟩
end
theorem max_in {ts : List Tr} (h : oks ts) (hn : ts ≠ []) : maxs ts ∈ ts.map Tr.turn := by
  obtain ⟨t, ht, e⟩ := maxs_mem h hn
  exact List.mem_map.mpr ⟨t, ht, e⟩
theorem max_le {ts : List Tr} : ∀ y ∈ ts.map Tr.turn, y ≤ maxs ts := fun y hy => by
  obtain ⟨t, ht, rfl⟩ := List.mem_map.mp hy
  exact maxs_ge t ht
theorem oks_get : ∀ {ts : List Tr} {i : Nat} {t : Tr}, oks ts → ts[i]? = some t → t.ok
  | t :: ts, 0, u, h, e => by cases e; exact h.1
  | t :: ts, i + 1, u, h, e => oks_get h.2 (by simpa using e)
theorem map_range {α : Type} (f : Tr → α) (ts : List Tr) : (List.range ts.length).map (fun i => f (ts.getD i (.hand ""))) = ts.map f := by
  apply List.ext_getElem
  · simp
  · intro i h1 h2
    have h3 : i < ts.length := by simpa using h2
    simp [List.getD_eq_getElem?_getD, h3]
end NL
/-! terms that tell some tuple of known things -/
namespace NL
open PySem L2 Evl
def EvS (K : PySem.W.Frag) (te : TE) (σ : L2.St) (H : Hp) (xs : List V) : Prop := ∀ H1, Ex H H1 → ∀ Q : VK, (∀ p H2, Ex H1 H2 → SqT K H2 p xs → Q (.ref p) H2) → te σ H1 Q
section
variable {K : PySem.W.Frag} {σ : L2.St} {H H' : Hp} {te ta tb : TE} {xs ys : List V}
theorem EvS.mono (e : Ex H H') (h : EvS K te σ H xs) : EvS K te σ H' xs := fun H1 a Q q => h H1 (e.trans a) Q q
end
/-! ### tuples of names against one another -/
end NL
/-! plans as data that weigh so much -/
namespace NL
open PySem L2 Evl
section
variable {K : PySem.W.Frag}
mutual
theorem trv_dy {H : Hp} : ∀ (t : Tr) (v : V), TrV H v t → Dy K H v t.dat
  | .hand n, _, h => by cases h; simp only [Tr.dat]; exact .str n
  | .grp n b ms, _, h => by
    cases h with
    | grp h1 h2 h3 =>
      simp only [Tr.dat]
      exact .tup (st_of h1) (.cons (.str n) (.cons (.int b) (.cons (.tup (st_of h2) (trvs_dy ms _ h3)) .nil)))
theorem trvs_dy {H : Hp} : ∀ (ts : List Tr) (vs : List V), TrVs H vs ts → DyAll K H vs (dats ts)
  | [], _, h => by cases h; simp only [dats]; exact .nil
  | t :: ts, _, h => by
    cases h with
    | cons h1 h2 =>
      simp only [dats]
      exact .cons (trv_dy t _ h1) (trvs_dy ts _ h2)
end
end
theorem name_asc {n : Str} (h : nameOk n) : asc n := fun c hc => by
  have := h.2.2 c hc
  omega
mutual
theorem dat_wt : ∀ (t : Tr), (∀ n ∈ t.nms, nameOk n) → t.ok → wt t.dat ≤ 170 * t.size ∧ nodes t.dat ≤ 4 * t.size ∧ t.dat.depth ≤ 2 * t.deep ∧ okD (2 ^ 30) t.dat
  | .hand n, h, _ => by
    have hn := h n (by simp [Tr.nms])
    have := hn.2.1
    simp only [Tr.dat, Tr.deep, Tr.size, wt, nodes, PyData.depth, okD]
    exact ⟨by omega, by omega, by omega, name_asc hn⟩
  | .grp n b ms, h, ho => by
    have hn := h n (by simp [Tr.nms])
    have := hn.2.1
    simp only [Tr.ok] at ho
    obtain ⟨b1, b2, _, ho⟩ := ho
    obtain ⟨i1, i2, i3, i4⟩ := dats_wt ms (fun m hm => h m (by simp [Tr.nms, hm])) ho
    simp only [Tr.dat, Tr.deep, Tr.size, wt, wts, nodes, nodess, PyData.depth, PyData.depthAll, okD, okDs]
    exact ⟨by omega, by omega, by omega, name_asc hn, by omega, i4, trivial⟩
theorem dats_wt : ∀ (ts : List Tr), (∀ n ∈ nmss ts, nameOk n) → oks ts → wts (dats ts) ≤ 170 * sizes ts ∧ nodess (dats ts) ≤ 4 * sizes ts ∧ PyData.depthAll (dats ts) ≤ 2 * deeps ts ∧ okDs (2 ^ 30) (dats ts)
  | [], _, _ => by simp [dats, wts, nodess, PyData.depthAll, okDs]
  | t :: ts, h, ho => by
    simp only [oks] at ho
    obtain ⟨i1, i2, i3, i4⟩ := dat_wt t (fun m hm => h m (by simp [nmss, hm])) ho.1
    obtain ⟨j1, j2, j3, j4⟩ := dats_wt ts (fun m hm => h m (by simp [nmss, hm])) ho.2
    simp only [dats, wts, nodess, PyData.depthAll, okDs, sizes, deeps]
    exact ⟨by omega, by omega, by omega, i4, j4⟩
end
end NL
/-! terms that make some datum and change nothing that is there; some addresses set aside -/
namespace NL
open PySem PySem.Spec PyProof.Rows L2 Evl
def Sin (S : List Addr) (H : Hp) : Prop := ∀ a ∈ S, H a ≠ none
theorem Sin.ex {S : List Addr} {H H' : Hp} (s : Sin S H) (e : Ex H H') : Sin S H' := fun a ha z => by
  cases h : H a with
  | none => exact s a ha h
  | some o =>
    rw [e a o h] at z
    cases z
theorem Sin.off {S : List Addr} {H : Hp} {p : Addr} (s : Sin S H) (hp : H p = none) : p ∉ S := fun h => s p h hp
theorem Sin.cons {S : List Addr} {H H' : Hp} {p : Addr} {o : HO} (s : Sin S H) (e : Ex H H') (hp : H' p = some o) : Sin (p :: S) H' := fun a ha => by
  rcases List.mem_cons.mp ha with rfl | ha
  · rw [hp]
    exact fun z => by cases z
  · exact s.ex e a ha
section
variable {K : PySem.W.Frag} {S : List Addr} {σ : L2.St} {H H' : Hp} {te tb : TE} {ta : TA} {W N D B W' N' D' B' n m : Nat}
def PV (K : PySem.W.Frag) (S : List Addr) (W N D B : Nat) (te : TE) (σ : L2.St) (H : Hp) : Prop := ∀ H1, Ex H H1 → ∀ Q : VK, (∀ v H2, Ex H1 H2 → G K (aside H2 S) v W N D B → Q v H2) → te σ H1 Q
def PTp (K : PySem.W.Frag) (S : List Addr) (W N D B : Nat) (te : TE) (σ : L2.St) (H : Hp) : Prop := ∀ H1, Ex H H1 → ∀ Q : VK, (∀ p xs H2, Ex H1 H2 → SqT K (aside H2 S) p xs → GL K (aside H2 S) xs W N D B → Q (.ref p) H2) → te σ H1 Q
/-- a list of at most n of them -/
def PLs (K : PySem.W.Frag) (S : List Addr) (n W N D B : Nat) (te : TE) (σ : L2.St) (H : Hp) : Prop := ∀ H1, Ex H H1 → ∀ Q : VK, (∀ p xs H2, Ex H1 H2 → H2 p = some (.lst xs) → p ∉ S → xs.length ≤ n → (∀ v ∈ xs, G K (aside H2 (p :: S)) v W N D B) → Q (.ref p) H2) → te σ H1 Q
theorem PV.mono (g : PV K S W N D B te σ H) (e : Ex H H') : PV K S W N D B te σ H' := fun H1 e1 Q q => g H1 (e.trans e1) Q q
theorem PV.up (g : PV K S W N D B te σ H) (hW : W ≤ W') (hN : N ≤ N') (hD : D ≤ D') (hB : B ≤ B') : PV K S W' N' D' B' te σ H := fun H1 e Q q => g H1 e Q fun v H2 e2 g2 => q v H2 e2 (g2.up hW hN hD hB)
theorem PTp.up (g : PTp K S W N D B te σ H) (hW : W ≤ W') (hN : N ≤ N') (hD : D ≤ D') (hB : B ≤ B') : PTp K S W' N' D' B' te σ H := fun H1 e Q q => g H1 e Q fun p xs H2 e2 s g2 => q p xs H2 e2 s (g2.up hW hN hD hB)
theorem PLs.up (g : PLs K S n W N D B te σ H) (hn : n ≤ m) (hW : W ≤ W') (hN : N ≤ N') (hD : D ≤ D') (hB : B ≤ B') : PLs K S m W' N' D' B' te σ H := fun H1 e Q q => g H1 e Q fun p xs H2 e2 h off l g2 => q p xs H2 e2 h off (by omega) fun v hv => (g2 v hv).up hW hN hD hB
end
end NL
/-! the box that draws: a list of three numbers; a box of names: a dict of three -/
namespace NL
open PySem L2 Evl
structure BxAt (H : Hp) (h : Addr) (n m c : Int) (C : Nat) : Prop where
  hh : H h = some (.lst [.int n, .int m, .int c])
  n0 : 0 ≤ n
  m0 : 0 ≤ m
  m1 : m < 2 ^ 100
  c0 : 0 ≤ c
  c1 : c ≤ C
def Bx (H : Hp) (h : Addr) (C : Nat) : Prop := ∃ n m c, BxAt H h n m c C
theorem BxAt.ex {H H' : Hp} {h : Addr} {n m c : Int} {C : Nat} (A : BxAt H h n m c C) (e : Ex H H') : BxAt H' h n m c C := ⟨e _ _ A.hh, A.n0, A.m0, A.m1, A.c0, A.c1⟩
theorem Bx.ex {H H' : Hp} {h : Addr} {C : Nat} (A : Bx H h C) (e : Ex H H') : Bx H' h C := by
  obtain ⟨n, m, c, A⟩ := A
  exact ⟨n, m, c, A.ex e⟩
theorem Bx.up {H : Hp} {h : Addr} {C C' : Nat} (A : Bx H h C) (hC : C ≤ C') : Bx H h C' := by
  obtain ⟨n, m, c, A⟩ := A
  exact ⟨n, m, c, A.hh, A.n0, A.m0, A.m1, A.c0, by have := A.c1; omega⟩
theorem Bx.fresh {H : Hp} {h p : Addr} {C : Nat} (A : Bx H h C) (n : H p = none) : p ≠ h := by
  obtain ⟨_, _, _, A⟩ := A
  intro e
  subst e
  rw [A.hh] at n
  cases n
theorem Bx.new {H : Hp} {h p : Addr} {o : HO} {C : Nat} (A : Bx H h C) (n : H p = none) : Bx (upd H p o) h C := A.ex (Ex.new n)
theorem ev_abs {σ : L2.St} {H : Hp} {te : TE} {i : Int} (h : Ev te σ H (.int i)) : Ev (tCB (fun xs H Q => ∃ i, xs = [.int i] ∧ Q (.int (if i < 0 then -i else i)) H) (tCons te tNil)) σ H (.int (if i < 0 then -i else i)) := ev_cb (ea_cons h ea_nil) fun H1 e Q q => ⟨i, rfl, q H1 (Ex.refl H1)⟩
theorem ev_intB {σ : L2.St} {H : Hp} {te : TE} {b : Bool} (h : Ev te σ H (.bl b)) : Ev (tCB (fun xs H Q => (∃ i, xs = [.int i] ∧ Q (.int i) H) ∨ ∃ k, xs = [.bl k] ∧ Q (.int (if k then 1 else 0)) H) (tCons te tNil)) σ H (.int (if b then 1 else 0)) := ev_cb (ea_cons h ea_nil) fun H1 e Q q => Or.inr ⟨b, rfl, q H1 (Ex.refl H1)⟩
theorem ex_kp {H H1 H' : Hp} {h : Addr} (e : Ex H H1) (n : H h = none) (k : Kp h h H1 H') : Ex H H' := fun a o ha => by
  have : a ≠ h := fun z => by
    subst z
    rw [n] at ha
    cases ha
  exact k a o this this (e _ _ ha)
/-! ### names by a dict: which is next, the first, how far from one to the next -/
def NB (H : Hp) (bx : Addr) (k : Nat) (f b : Int) : Prop := H bx = some (.dK [(Sum.inr (Str.ofString "next"), .int (k : Int)), (Sum.inr (Str.ofString "first"), .int f), (Sum.inr (Str.ofString "by"), .int b)])
def nmL (f b : Int) (j : Nat) : Str := ⟨#[97 + ((f + b * (j : Int)) % 26).toNat]⟩
theorem nmL_ok (f b : Int) (j : Nat) : nameOk (nmL f b j) := by
  refine ⟨?_, ?_, fun c hc => ?_⟩
  · show 1 ≤ 1
    decide
  · show 1 ≤ 8
    decide
  · have : c = 97 + ((f + b * (j : Int)) % 26).toNat := by simpa [nmL] using hc
    omega
def byOk (b : Int) : Prop := b = 1 ∨ b = 3 ∨ b = 5 ∨ b = 7 ∨ b = 9 ∨ b = 11 ∨ b = 25
theorem nmL_ne {f b : Int} (h : byOk b) {i j : Nat} (hi : i < j) (hj : j < i + 26) : nmL f b i ≠ nmL f b j := by
  intro e
  have e2 : ((f + b * (i : Int)) % 26).toNat = ((f + b * (j : Int)) % 26).toNat := by
    have := congrArg (fun s : Str => s.cps.toList) e
    simp [nmL] at this
    exact this
  rcases h with rfl | rfl | rfl | rfl | rfl | rfl | rfl <;> omega
theorem NB.ex {H H' : Hp} {bx : Addr} {k : Nat} {f b : Int} (n : NB H bx k f b) (e : Ex H H') : NB H' bx k f b := e _ _ n
theorem NB.kp {H H' : Hp} {bx h : Addr} {k : Nat} {f b : Int} (n : NB H bx k f b) (ne : bx ≠ h) (e : Kp h h H H') : NB H' bx k f b := e _ _ ne ne n
theorem Bx.kp {H H' : Hp} {bx h : Addr} {C : Nat} (A : Bx H h C) (ne : h ≠ bx) (e : Kp bx bx H H') : Bx H' h C := by
  obtain ⟨n, m, c, A⟩ := A
  exact ⟨n, m, c, e _ _ ne ne A.hh, A.n0, A.m0, A.m1, A.c0, A.c1⟩
theorem kp_l {H H' : Hp} {h l : Addr} (k : Kp h h H H') : Kp h l H H' := fun a o n _ e => k a o n n e
theorem kp_r {H H' : Hp} {h l : Addr} (k : Kp l l H H') : Kp h l H H' := fun a o _ m e => k a o m m e
theorem Bx.ne {H : Hp} {h bx : Addr} {C k : Nat} {f b : Int} (A : Bx H h C) (n : NB H bx k f b) : h ≠ bx := fun z => by
  obtain ⟨_, _, _, A⟩ := A
  subst z
  have := A.hh.symm.trans n
  cases this
/-- tuples stay where these two are a list and a dict -/
theorem tk_kp2 {H H' : Hp} {h bx : Addr} {C k : Nat} {f b : Int} (A : Bx H h C) (n : NB H bx k f b) (e : Kp h bx H H') : TK H H' := fun a xs ha => e a _ (fun z => by
  obtain ⟨_, _, _, A⟩ := A
  subst z
  rw [A.hh] at ha
  cases ha) (fun z => by
  subst z
  have := n.symm.trans ha
  cases this) ha
theorem tk_nb {H H' : Hp} {bx : Addr} {k : Nat} {f b : Int} (n : NB H bx k f b) (e : Kp bx bx H H') : TK H H' := fun a xs ha => by
  have : a ≠ bx := fun z => by
    subst z
    have := n.symm.trans ha
    cases this
  exact e a _ this this ha
theorem tk_bx {H H' : Hp} {h : Addr} {C : Nat} (A : Bx H h C) (e : Kp h h H H') : TK H H' := fun a xs ha => by
  obtain ⟨_, _, _, A⟩ := A
  have : a ≠ h := fun z => by
    subst z
    rw [A.hh] at ha
    cases ha
  exact e a _ this this ha
theorem fresh_kp {H H1 : Hp} {h bx D : Addr} (k : Kp h bx H H1) (dh : D ≠ h) (db : D ≠ bx) (hD : H1 D = none) : H D = none := by
  cases z : H D with
  | none => rfl
  | some o => rw [k D o dh db z] at hD; cases hD
theorem NB.fresh {H : Hp} {bx p : Addr} {k : Nat} {f b : Int} (n : NB H bx k f b) (hp : H p = none) : p ≠ bx := fun z => by
  subst z
  have := n.symm.trans hp
  cases this
/-! ### names of groups -/
mutual
def Tr.gn : Tr → List Str
  | .hand _ => []
  | .grp n _ ms => n :: gns ms
def gns : List Tr → List Str
  | [] => []
  | t :: ts => t.gn ++ gns ts
end
theorem mem_gns : ∀ {ts : List Tr} {x : Str}, x ∈ gns ts → ∃ t ∈ ts, x ∈ t.gn
  | t :: ts, x, h => by
    simp only [gns] at h
    rcases List.mem_append.mp h with h | h
    · exact ⟨t, List.mem_cons_self .., h⟩
    · obtain ⟨u, hu, hx⟩ := mem_gns h
      exact ⟨u, List.mem_cons_of_mem _ hu, hx⟩
theorem mem_nmss : ∀ {ts : List Tr} {x : Str}, x ∈ nmss ts → ∃ t ∈ ts, x ∈ t.nms
  | t :: ts, x, h => by
    simp only [nmss] at h
    rcases List.mem_append.mp h with h | h
    · exact ⟨t, List.mem_cons_self .., h⟩
    · obtain ⟨u, hu, hx⟩ := mem_nmss h
      exact ⟨u, List.mem_cons_of_mem _ hu, hx⟩
theorem oks_of : ∀ {ts : List Tr}, (∀ t ∈ ts, t.ok) → oks ts
  | [], _ => trivial
  | t :: ts, h => ⟨h t (List.mem_cons_self ..), oks_of fun u hu => h u (List.mem_cons_of_mem _ hu)⟩
theorem deeps_of {d : Nat} : ∀ {ts : List Tr}, (∀ t ∈ ts, t.deep ≤ d) → deeps ts ≤ d
  | [], _ => Nat.zero_le _
  | t :: ts, h => by
    simp only [deeps]
    exact Nat.max_le.mpr ⟨h t (List.mem_cons_self ..), deeps_of fun u hu => h u (List.mem_cons_of_mem _ hu)⟩
/-- a tree whose groups have names between these -/
structure GM (f b : Int) (lo hi d : Nat) (t : Tr) : Prop where
  ok : t.ok
  dp : t.deep ≤ d
  nm : ∀ x ∈ t.nms, nameOk x
  gn : ∀ x ∈ t.gn, ∃ j, lo < j ∧ j ≤ hi ∧ x = nmL f b j
theorem GM.up {f b : Int} {lo hi lo' hi' d d' : Nat} {t : Tr} (g : GM f b lo hi d t) (h1 : lo' ≤ lo) (h2 : hi ≤ hi') (h3 : d ≤ d') : GM f b lo' hi' d' t := ⟨g.ok, Nat.le_trans g.dp h3, g.nm, fun x hx => by
  obtain ⟨j, a, c, e⟩ := g.gn x hx
  exact ⟨j, by omega, by omega, e⟩⟩
theorem GM.hand {f b : Int} {lo hi d : Nat} {x : Str} (h : nameOk x) : GM f b lo hi d (.hand x) := ⟨trivial, Nat.zero_le _, fun y hy => by
  simp only [Tr.nms] at hy
  rw [List.mem_singleton.mp hy]
  exact h, fun y hy => by cases hy⟩
def GMs (f b : Int) (lo hi d : Nat) (ts : List Tr) : Prop := (∀ t ∈ ts, GM f b lo hi d t) ∧ sizes ts + lo ≤ hi
theorem GMs.grp {f b : Int} {lo lo' hi d j : Nat} {ms : List Tr} {c : Int} (g : GMs f b lo hi d ms) (hn : ms ≠ []) (c1 : 1 ≤ c) (c2 : c ≤ 999999999) (j1 : lo' < j) (j2 : j ≤ hi) (hl : lo' ≤ lo) : GM f b lo' hi (d + 1) (.grp (nmL f b j) c ms) where
  ok := ⟨c1, c2, hn, oks_of fun t ht => (g.1 t ht).ok⟩
  dp := by
    simp only [Tr.deep]
    have := deeps_of fun t ht => (g.1 t ht).dp
    omega
  nm := fun x hx => by
    simp only [Tr.nms] at hx
    rcases List.mem_cons.mp hx with rfl | hx
    · exact nmL_ok f b j
    · obtain ⟨t, ht, hx⟩ := mem_nmss hx
      exact (g.1 t ht).nm x hx
  gn := fun x hx => by
    simp only [Tr.gn] at hx
    rcases List.mem_cons.mp hx with rfl | hx
    · exact ⟨j, j1, j2, rfl⟩
    · obtain ⟨t, ht, hx⟩ := mem_gns hx
      obtain ⟨i, a1, a2, a3⟩ := (g.1 t ht).gn x hx
      exact ⟨i, by omega, a2, a3⟩
theorem GMs.ins {f b : Int} {lo mid hi d : Nat} {a c : List Tr} {t : Tr} (g : GMs f b lo mid d (a ++ c)) (gt : GM f b mid hi d t) (hs : t.size + mid ≤ hi) (hm : lo ≤ mid) : GMs f b lo hi d (a ++ [t] ++ c) := by
  have hs2 := g.2
  rw [sizes_app] at hs2
  refine ⟨fun u hu => ?_, ?_⟩
  · have h : u ∈ a ∨ u = t ∨ u ∈ c := by
      rcases List.mem_append.mp hu with hu | hu
      · rcases List.mem_append.mp hu with hu | hu
        · exact .inl hu
        · exact .inr (.inl (List.mem_singleton.mp hu))
      · exact .inr (.inr hu)
    rcases h with h | rfl | h
    · exact (g.1 u (List.mem_append_left _ h)).up (Nat.le_refl _) (by omega) (Nat.le_refl _)
    · exact gt.up hm (Nat.le_refl _) (Nat.le_refl _)
    · exact (g.1 u (List.mem_append_right _ h)).up (Nat.le_refl _) (by omega) (Nat.le_refl _)
  · rw [sizes_app, sizes_app]
    simp only [sizes]
    omega
theorem GMs.up {f b : Int} {lo hi hi' d d' : Nat} {ts : List Tr} (g : GMs f b lo hi d ts) (h2 : hi ≤ hi') (h3 : d ≤ d') : GMs f b lo hi' d' ts := ⟨fun t ht => (g.1 t ht).up (Nat.le_refl _) h2 h3, Nat.le_trans g.2 h2⟩
theorem GMs.app {f b : Int} {lo mid hi d : Nat} {a : List Tr} {t : Tr} (g : GMs f b lo mid d a) (gt : GM f b mid hi d t) (hs : t.size + mid ≤ hi) (hm : lo ≤ mid) : GMs f b lo hi d (a ++ [t]) := by
  have := GMs.ins (a := a) (c := []) (by rw [List.append_nil]; exact g) gt hs hm
  rw [List.append_nil] at this
  exact this
theorem trvs_ins {H : Hp} {xs : List V} {ts : List Tr} {v : V} {t : Tr} {i : Nat} (h : TrVs H xs ts) (hv : TrV H v t) : TrVs H (xs.take i ++ [v] ++ xs.drop i) (ts.take i ++ [t] ++ ts.drop i) := by
  have tk : ∀ {xs : List V} {ts : List Tr} (i : Nat), TrVs H xs ts → TrVs H (xs.take i) (ts.take i) := by
    intro xs ts i h
    induction i generalizing xs ts with
    | zero => simp; exact .nil
    | succ i ih =>
      cases h with
      | nil => exact .nil
      | cons a r => exact .cons a (ih r)
  have dr : ∀ {xs : List V} {ts : List Tr} (i : Nat), TrVs H xs ts → TrVs H (xs.drop i) (ts.drop i) := by
    intro xs ts i h
    induction i generalizing xs ts with
    | zero => exact h
    | succ i ih =>
      cases h with
      | nil => exact .nil
      | cons a r => exact ih r
  exact trvs_app (trvs_app (tk i h) (.cons hv .nil)) (dr i h)
end NL
/-! data of tuples alone: they stay whatever becomes of lists -/
namespace NL
open PySem L2 Evl
mutual
def tupOnly : PyData → Bool
  | .none => true
  | .bool _ => true
  | .int _ => true
  | .str _ => true
  | .tuple ds => tupOnlys ds
  | _ => false
def tupOnlys : List PyData → Bool
  | [] => true
  | d :: ds => tupOnly d && tupOnlys ds
end
def ST (K : PySem.W.Frag) (H H' : Hp) : Prop := ∀ a xs, SqT K H a xs → SqT K H' a xs
theorem ST.refl {K : PySem.W.Frag} (H : Hp) : ST K H H := fun _ _ h => h
theorem ST.trans {K : PySem.W.Frag} {H H1 H2 : Hp} (a : ST K H H1) (b : ST K H1 H2) : ST K H H2 := fun x y h => b x y (a x y h)
theorem ST.ex {K : PySem.W.Frag} {H H' : Hp} (e : Ex H H') : ST K H H' := fun _ _ h => ex_t e h
theorem ST.lst {K : PySem.W.Frag} {H : Hp} {p : Addr} {ys : List V} {o : HO} (h : H p = some (.lst ys)) : ST K H (upd H p o) := fun a xs s => by
  rcases s with (z | ⟨ob, z⟩) | z
  · refine Or.inl (Or.inl ?_)
    rw [upd_ne (fun y => by subst y; rw [h] at z; cases z)]
    exact z
  · refine Or.inl (Or.inr ⟨ob, ?_⟩)
    rw [upd_ne (fun y => by subst y; rw [h] at z; cases z)]
    exact z
  · exact Or.inr z
mutual
theorem dy_st {K : PySem.W.Frag} {H H' : Hp} (s : ST K H H') : ∀ (d : PyData) (v : V), tupOnly d = true → Dy K H v d → Dy K H' v d
  | .none, _, _, h => by cases h; exact .non
  | .bool b, _, _, h => by cases h; exact .bl b
  | .int i, _, _, h => by cases h; exact .int i
  | .str x, _, _, h => by cases h; exact .str x
  | .tuple ds, _, t, h => by
    cases h with
    | tup hs ha =>
      simp only [tupOnly] at t
      exact .tup (s _ _ hs) (dya_st s ds _ t ha)
  | .list ds, _, t, _ => by simp [tupOnly] at t
  | .dict ds, _, t, _ => by simp [tupOnly] at t
theorem dya_st {K : PySem.W.Frag} {H H' : Hp} (s : ST K H H') : ∀ (ds : List PyData) (vs : List V), tupOnlys ds = true → DyAll K H vs ds → DyAll K H' vs ds
  | [], _, _, h => by cases h; exact .nil
  | d :: ds, _, t, h => by
    cases h with
    | cons a b =>
      simp only [tupOnlys, Bool.and_eq_true] at t
      exact .cons (dy_st s d _ t.1 a) (dya_st s ds _ t.2 b)
end
/-- a datum of tuples alone, small -/
structure TD (K : PySem.W.Frag) (H : Hp) (W N D : Nat) (v : V) (d : PyData) : Prop where
  dy : Dy K H v d
  to : tupOnly d = true
  wt : wt d ≤ W
  nd : nodes d ≤ N
  dp : d.depth ≤ D
  ok : okD 1000000000 d
theorem TD.st {K : PySem.W.Frag} {H H' : Hp} {W N D : Nat} {v : V} {d : PyData} (t : TD K H W N D v d) (s : ST K H H') : TD K H' W N D v d := ⟨dy_st s d v t.to t.dy, t.to, t.wt, t.nd, t.dp, t.ok⟩
theorem TD.up {K : PySem.W.Frag} {H : Hp} {W N D W' N' D' : Nat} {v : V} {d : PyData} (t : TD K H W N D v d) (h1 : W ≤ W') (h2 : N ≤ N') (h3 : D ≤ D') : TD K H W' N' D' v d := ⟨t.dy, t.to, Nat.le_trans t.wt h1, Nat.le_trans t.nd h2, Nat.le_trans t.dp h3, t.ok⟩
inductive TDs (K : PySem.W.Frag) (H : Hp) (W N D : Nat) : List V → List PyData → Prop
  | nil : TDs K H W N D [] []
  | cons {v : V} {vs : List V} {d : PyData} {ds : List PyData} : TD K H W N D v d → TDs K H W N D vs ds → TDs K H W N D (v :: vs) (d :: ds)
theorem TDs.st {K : PySem.W.Frag} {H H' : Hp} {W N D : Nat} (s : ST K H H') : ∀ {vs : List V} {ds : List PyData}, TDs K H W N D vs ds → TDs K H' W N D vs ds
  | _, _, .nil => .nil
  | _, _, .cons a b => .cons (a.st s) (b.st s)
theorem TDs.one {K : PySem.W.Frag} {H : Hp} {W N D : Nat} {v : V} {d : PyData} (t : TD K H W N D v d) : ∀ {vs : List V} {ds : List PyData}, TDs K H W N D vs ds → TDs K H W N D (vs ++ [v]) (ds ++ [d])
  | _, _, .nil => .cons t .nil
  | _, _, .cons a b => .cons a (b.one t)
theorem TDs.len {K : PySem.W.Frag} {H : Hp} {W N D : Nat} : ∀ {vs : List V} {ds : List PyData}, TDs K H W N D vs ds → vs.length = ds.length
  | _, _, .nil => rfl
  | _, _, .cons _ b => by rw [List.length_cons, List.length_cons, b.len]
theorem TDs.all {K : PySem.W.Frag} {H : Hp} {W N D : Nat} : ∀ {vs : List V} {ds : List PyData}, TDs K H W N D vs ds → DyAll K H vs ds ∧ tupOnlys ds = true ∧ wts ds ≤ ds.length * W ∧ nodess ds ≤ ds.length * N ∧ PyData.depthAll ds ≤ D ∧ okDs 1000000000 ds
  | _, _, .nil => ⟨.nil, rfl, by simp [wts], by simp [nodess], by simp [PyData.depthAll], by simp [okDs]⟩
  | _, _, .cons (ds := ds) a b => by
    obtain ⟨b1, b2, b3, b4, b5, b6⟩ := b.all
    refine ⟨.cons a.dy b1, by simp only [tupOnlys, a.to, b2]; rfl, ?_, ?_, ?_, ?_⟩
    · have := a.wt
      simp only [wts, List.length_cons, Nat.succ_mul]
      omega
    · have := a.nd
      simp only [nodess, List.length_cons, Nat.succ_mul]
      omega
    · have := a.dp
      simp only [PyData.depthAll]
      omega
    · simp only [okDs]
      exact ⟨a.ok, b6⟩
/-- a tuple of such ones -/
theorem TDs.tup {K : PySem.W.Frag} {H : Hp} {W N D n : Nat} {a : Addr} {vs : List V} {ds : List PyData} (t : TDs K H W N D vs ds) (hs : SqT K H a vs) (hn : ds.length ≤ n) : TD K H (n * W + 10) (n * N + 1) (D + 1) (.ref a) (.tuple ds) := by
  obtain ⟨b1, b2, b3, b4, b5, b6⟩ := t.all
  have h1 := Nat.mul_le_mul_right W hn
  have h2 := Nat.mul_le_mul_right N hn
  refine ⟨.tup hs b1, by simp only [tupOnly]; exact b2, ?_, ?_, ?_, ?_⟩
  · simp only [NL.wt]
    omega
  · simp only [nodes]
    omega
  · simp only [PyData.depth]
    omega
  · simp only [okD]
    exact b6
end NL
/-! a list set aside while a def is called: it stays, and nothing new leads to it -/
namespace NL
open PySem PySem.Spec PyProof.Rows L2 Evl
theorem ObjOk.over {P : Program} {w : World} {H H' : Hp} {h : Heap} (k : ∀ x u, H x = some u → (∀ zs, u ≠ .lst zs) → H' x = some u) : ∀ {o : HO} {a : Addr}, ObjOk P w H h a o → ObjOk P w H' h a o
  | .lst _, _, x => x
  | .tup _, _, x => x
  | .dK _, _, x => x
  | .dT kvs, a, x => by
    obtain ⟨h1, h2, xs, h3, h4⟩ := x
    exact ⟨h1, h2, xs, Paired.mapP h3 (fun p q r => ⟨r.1, k _ _ r.2.1 (fun zs z => by cases z), r.2.2⟩), h4⟩
  | .set _ _, _, x => x
  | .ins C dx fs, a, x => ⟨k _ _ x.1 (fun zs z => by cases z), x.2⟩
  | .own _, _, x => x
  | .xd _, _, x => x
  | .rng _ _, _, x => x
  | .frz o u, a, x => ⟨x.1, ObjOk.over k (o := u) x.2⟩
  | .tbl _, _, x => x
  | .met _ _, _, x => x
  | .ext _, _, x => x
def framed (sp : Sp) : Sp := fun vs H Q E => ∃ (q : Addr) (zs : List V), H q = some (.lst zs) ∧ sp vs (aside H [q]) (fun v H' => H' q = none → Q v (upd H' q (.lst zs))) E
section
variable {P : Program} {w : World} {K : PySem.W.Frag} {mg : Str → Option Value} {base : Heap} {k : Nat} {f : Addr} {fd : FuncData} {ps : List Str} {sp : Sp}
theorem aside_none {H : Hp} {S : List Addr} {b : Addr} (h : H b = none) : aside H S b = none := by
  by_cases hb : b ∈ S
  · exact aside_in hb
  · rw [aside_at hb]
    exact h
theorem env_less {A : Around} {outer : List Env} {s : Shared} {H : Hp} {q : Addr} {zs : List V} (e : Env0 P w K mg base A outer s H) (hq : H q = some (.lst zs)) : Env0 P w K mg base A outer s (aside H [q]) := by
  refine ⟨e.frames, e.mod, fun b o hb => ⟨(e.bs b o hb).1, aside_none (e.bs b o hb).2⟩, e.bsz, e.funs, fun b hb => aside_none (e.frf b hb), fun a o ha => ?_, e.bare⟩
  have hne : a ∉ [q] := fun z => by
    rw [aside_in z] at ha
    cases ha
  rw [aside_at hne] at ha
  refine ObjOk.over (fun x u hx nl => ?_) (e.hok a o ha)
  have hxq : x ∉ [q] := fun z => by
    rw [List.mem_singleton.mp z, hq] at hx
    cases hx
    exact nl _ rfl
  rw [aside_at hxq]
  exact hx
theorem end_more {outer : List Env} {H : Hp} {s s' : Shared} {q : Addr} {zs : List V} {Q : VK} {u : Value} (hok : HOk P w H s.heap) (frf : ∀ b ∈ frs outer, H b = none) (hq : H q = some (.lst zs)) (c : CE outer P w (aside H [q]) s (fun v H' => H' q = none → Q v (upd H' q (.lst zs))) u s') : CE outer P w H s Q u s' := by
  obtain ⟨v, H', os, bare, un, hok', ru, fin⟩ := c
  have okq := hok q _ hq
  obtain ⟨len, its, n, rv, at_q⟩ := okq
  have nq : aside H [q] q = none := aside_in (List.mem_singleton.mpr rfl)
  have free : H' q = none := un.free q _ at_q nq (by simp)
  have offq : q ∉ frs outer := fun z => by
    rw [frf q z] at hq
    cases hq
  have ne : ∀ {b : Addr} {o : HO}, H b = none ∨ (H b = some o ∧ ∀ zs, o ≠ .lst zs) → b ≠ q := fun h z => by
    subst z
    rcases h with h | ⟨h, nl⟩
    · rw [hq] at h
      cases h
    · rw [hq] at h
      cases h
      exact nl _ rfl
  have at_ne : ∀ {b : Addr}, b ≠ q → aside H [q] b = H b := fun h => aside_at (by simpa using h)
  refine ⟨v, upd H' q (.lst zs), os, bare, ⟨fun b o hb hn hf hx => un.keep b o hb (aside_none hn) hf hx, fun b o hb hn hf hx => un.slot b o hb (aside_none hn) hf hx, fun b o hb hn hx => ?_, un.there, fun b xs hb => ?_, fun b o y hb => ?_, fun b p hb => ?_⟩, fun a o ha => ?_, ru, fin free⟩
  · rw [upd_ne (ne (o := .lst []) (Or.inl hn))]
    exact un.free b o hb (aside_none hn) hx
  · have hne := ne (Or.inr ⟨hb, fun zs z => by cases z⟩)
    rw [upd_ne hne]
    exact un.tups b xs (by rw [at_ne hne]; exact hb)
  · have hne := ne (Or.inr ⟨hb, fun zs z => by cases z⟩)
    rw [upd_ne hne]
    exact un.frzs b o y (by rw [at_ne hne]; exact hb)
  · have hne := ne (Or.inr ⟨hb, fun zs z => by cases z⟩)
    rw [upd_ne hne]
    exact un.tbls b p (by rw [at_ne hne]; exact hb)
  · by_cases hne : a = q
    · subst hne
      rw [upd_same] at ha
      cases ha
      exact ⟨len, its, n, rv, un.keep a _ at_q nq offq (by simp)⟩
    · rw [upd_ne hne] at ha
      exact ObjOk.over (fun x u hx _ => (Ex.new free) x u hx) (hok' a o ha)
theorem FnG.frame (F : FnG P w K mg base k f fd ps sp) : FnG P w K mg base k f fd ps (framed sp) := by
  refine ⟨fun xs H Q E h => ?_, fun A envs s H ar vals xs Q E quiet room env binds rel told => ?_⟩
  · obtain ⟨q, zs, _, h⟩ := h
    exact F.arity _ _ _ _ h
  obtain ⟨q, zs, hq, told⟩ := told
  refine codeAny_mono (F.go A envs s (aside H [q]) ar vals xs _ E quiet room (env_less env hq) binds rel told) fun r s' out => ?_
  match r, out with
  | .error _, out => exact out.elim
  | .ok .next, out => exact out.elim
  | .ok .brk, out => exact out.elim
  | .ok .cont, out => exact out.elim
  | .ok (.ret u), out => exact end_more env.hok env.frf hq out
theorem FnOk.frame (F : FnOk P w K mg base CX0 k f fd ps sp) : FnOk P w K mg base CX0 k f fd ps (framed sp) := by
  refine ⟨fun xs H Q E h => ?_, fun A envs s H ar vals xs Q E room env binds rel told => ?_⟩
  · obtain ⟨q, zs, _, h⟩ := h
    exact F.len _ _ _ _ h
  obtain ⟨q, zs, hq, told⟩ := told
  refine codeAny_mono (F.run A envs s (aside H [q]) ar vals xs _ E room (env_less env hq) binds rel told) fun r s' out => ?_
  match r, out with
  | .error _, out => exact out.elim
  | .ok .next, out => exact out.elim
  | .ok .brk, out => exact out.elim
  | .ok .cont, out => exact out.elim
  | .ok (.ret u), out => exact end_more env.hok env.frf hq out
end
/-! ### what stays of the hand, and of data, across such a call -/
end NL
/-! the law's own call, with the modules' dict held in sight -/
namespace NL
open PySem PySem.Spec PyProof.Rows L2 Evl
section
variable {P : Program} {w : World} {K : PySem.W.Frag} {mg mb : Str → Option Value} {k : Nat} {fa a : Addr} {fd : FuncData} {x : Str} {sp : Sp} {s : Shared} {vals : List Value} {ns : List Int}
theorem held_call (kin : K.In s.heap) (glob : s.heap.Ns mainGlobals mg) (blt : s.heap.Ns builtinsNs mb) (boot : ∀ x : Str, x ≠ "__name__" → mb x = bootBuiltins x) (nolim : s.heap.NoLimit) (gens : s.gens = #[])
    (script : s.heap.get? a = some { cls := .type "list", data := .seq vals.toArray }) (room : Room k callerA) (F : ∀ base : Heap, K.In base → base.Ns mainGlobals mg → FnG P w K mg base k fa fd [x] sp)
    (bind : ∀ (s : Shared) (u : Value), BindsTo s fd ⟨[u], []⟩ [(x, u)]) (H : Hp) (only : ∀ b, H b = none ∨ ∃ o u, H b = some (.frz o u)) (promise : sp [.ref a] H (fun v _ => v = .bl true) E0) (hok : HOk P w H s.heap) (just : ∀ b, H b ≠ none → b = a ∨ b = sysModules) (off : ∀ b, H b ≠ none → K.lookup b = none) :
    codeAny (model P w) callerA (.call (.ref fa) ⟨[.ref a], []⟩) (fun r s' => r = .ok (.ret (.bool true)) ∧ OldK s.heap s'.heap ∧ s'.os = s.os ∧ AllBare s'.gens) s := by
  have free : ∀ {b : Addr} {o : Obj}, s.heap.get? b = some o → b ≠ sysModules → (∀ its n, o.data ≠ .seq its n) → H b = none := by
    intro b o e nsys nseq
    cases hb : H b with
    | none => rfl
    | some u =>
      exfalso
      rcases just b (by rw [hb]; exact fun z => by cases z) with eb | eb
      · subst eb
        rw [script] at e
        cases e
        exact nseq _ _ rfl
      · exact nsys eb
  have seen : ∀ {b : Addr} {m : Str → Option Value}, b ≠ sysModules → s.heap.Ns b m → (hidT s.heap H).Ns b m := by
    intro b m n h
    obtain ⟨o, es, ep, e, d, r⟩ := h
    exact ⟨o, es, ep, hidT_get e (free e n (fun its n z => by rw [d] at z; cases z)), d, r⟩
  have kin' : K.In (hidT s.heap H) := by
    intro b o e
    refine hidT_get (kin b o e) ?_
    cases hb : H b with
    | none => rfl
    | some u =>
      exfalso
      rw [off b (by rw [hb]; exact fun z => by cases z)] at e
      cases e
  have m1 : mainGlobals ≠ sysModules := by decide
  have env0 : Env0 P w K mg (hidT s.heap H) callerA [] s H := by
    refine ⟨rfl, ⟨kin', seen m1 glob, ⟨mb, seen (by decide) blt, boot⟩, ?_⟩, fun b o e => of_hidT e, Nat.le_of_eq (hidT_size _ _), trivial, fun b hb => ?_, hok, .of_eq gens⟩
    · obtain ⟨mc, h1, h2⟩ := nolim
      exact ⟨mc, seen (by decide) h1, h2⟩
    · exact absurd (show b ∈ ([] : List Addr) from hb) (by simp)
  refine codeAny_mono ((F _ kin' (seen m1 glob)).go callerA [] s H ⟨[.ref a], []⟩ [.ref a] [.ref a] _ _ rfl room env0 (bind s (.ref a)) (.cons rfl .nil) promise) fun r s' out => ?_
  match r, out with
  | .error _, out => exact out.elim
  | .ok .next, out => exact out.elim
  | .ok .brk, out => exact out.elim
  | .ok .cont, out => exact out.elim
  | .ok (.ret u), out =>
    obtain ⟨v, H', os, bare, un, hok', ru, hv⟩ := out
    have ev : v = .bl true := hv
    subst ev
    have eu : u = Value.bool true := ru
    subst eu
    refine ⟨rfl, OldK.of_keep fun b o e => ?_, os, bare⟩
    rcases only b with z | ⟨ob, y, z⟩
    · exact un.keep b o e z (fun q => absurd (show b ∈ ([] : List Addr) from q) (by simp)) (by simp)
    · have was := (hok b _ z).1
      have now := (hok' b _ (un.frzs b ob _ z)).1
      rw [e] at was
      cases was
      exact now
theorem law_y {mm : Str → Option Value} (kin : K.In s.heap) (glob : s.heap.Ns mainGlobals mg) (blt : s.heap.Ns builtinsNs mb) (boot : ∀ x : Str, x ≠ "__name__" → mb x = bootBuiltins x) (nolim : s.heap.NoLimit) (mods : s.heap.Ns sysModules mm) (gens : s.gens = #[])
    (script : s.heap.get? a = some { cls := .type "list", data := .seq vals.toArray }) (whole : PyProof.Rows.IntsAre vals ns) (few : ns.length ≤ sizeLine) (room : Room k callerA) (F : ∀ base : Heap, K.In base → base.Ns mainGlobals mg → FnG P w K mg base k fa fd [x] sp)
    (bind : ∀ (s : Shared) (u : Value), BindsTo s fd ⟨[u], []⟩ [(x, u)]) (promise : ∀ H : Hp, Sy K H → SqL K H a (ns.map V.int) → sp [.ref a] H (fun v _ => v = .bl true) E0) :
    codeAny (model P w) callerA (.call (.ref fa) ⟨[.ref a], []⟩) (fun r s' => r = .ok (.ret (.bool true)) ∧ OldK s.heap s'.heap ∧ s'.os = s.os ∧ AllBare s'.gens) s := by
  have rel := vals_ints whole
  have many := whole.length
  obtain ⟨om, es, ep, hm, hd, _⟩ := mods
  have apart : a ≠ sysModules := by
    intro z
    subst z
    rw [script] at hm
    cases hm
    cases hd
  let S : HO := .frz { cls := .type "list", data := .seq vals.toArray } (.lst (ns.map V.int))
  let M : HO := .frz om (.ext fun _ => True)
  let H : Hp := fun b => if b = a then (if K.lookup a = none then some S else none) else if b = sysModules then (if K.lookup sysModules = none then some M else none) else none
  have Ha : H a = if K.lookup a = none then some S else none := if_pos rfl
  have Hm : H sysModules = if K.lookup sysModules = none then some M else none := by
    show (if sysModules = a then _ else _) = _
    rw [if_neg (Ne.symm apart), if_pos rfl]
  have Ho : ∀ b, b ≠ a → b ≠ sysModules → H b = none := fun b h1 h2 => by
    show (if b = a then _ else if b = sysModules then _ else none) = none
    rw [if_neg h1, if_neg h2]
  have okS : ∀ H' : Hp, ObjOk P w H' s.heap a S := fun H' => ⟨script, by rw [List.length_map]; exact few, vals, _, rel, script⟩
  have okM : ∀ H' : Hp, ObjOk P w H' s.heap sysModules M := fun H' => ⟨hm, trivial, ⟨om, hm⟩, fun _ _ _ _ => trivial⟩
  refine held_call kin glob blt boot nolim gens script room F bind H (fun b => ?_) (promise H ?_ ?_) (fun b o z => ?_) (fun b z => ?_) (fun b z => ?_)
  · by_cases h1 : b = a
    · subst h1
      rw [Ha]
      by_cases h2 : K.lookup b = none
      · rw [if_pos h2]
        exact Or.inr ⟨_, _, rfl⟩
      · rw [if_neg h2]
        exact Or.inl rfl
    · by_cases h3 : b = sysModules
      · subst h3
        rw [Hm]
        by_cases h2 : K.lookup sysModules = none
        · rw [if_pos h2]
          exact Or.inr ⟨_, _, rfl⟩
        · rw [if_neg h2]
          exact Or.inl rfl
      · exact Or.inl (Ho b h1 h3)
  · cases h2 : K.lookup sysModules with
    | none => exact Or.inr ⟨om, _, by rw [Hm, if_pos h2]⟩
    | some o => exact Or.inl ⟨o, h2⟩
  · cases h2 : K.lookup a with
    | none => exact Or.inl (Or.inr ⟨_, by rw [Ha, if_pos h2]⟩)
    | some o =>
      have e := kin a o h2
      rw [script] at e
      cases e
      exact Or.inr ⟨_, vals.toArray, _, h2, rfl, rfl, rfl, by rw [List.size_toArray, many]; exact few, by simpa using rel⟩
  · by_cases h1 : b = a
    · subst h1
      rw [Ha] at z
      by_cases h2 : K.lookup b = none
      · rw [if_pos h2] at z
        cases z
        exact okS H
      · rw [if_neg h2] at z
        cases z
    · by_cases h3 : b = sysModules
      · subst h3
        rw [Hm] at z
        by_cases h2 : K.lookup sysModules = none
        · rw [if_pos h2] at z
          cases z
          exact okM H
        · rw [if_neg h2] at z
          cases z
      · rw [Ho b h1 h3] at z
        cases z
  · by_cases h1 : b = a
    · exact Or.inl h1
    · by_cases h3 : b = sysModules
      · exact Or.inr h3
      · exact absurd (Ho b h1 h3) z
  · by_cases h1 : b = a
    · subst h1
      rw [Ha] at z
      by_cases h2 : K.lookup b = none
      · exact h2
      · rw [if_neg h2] at z
        exact absurd rfl z
    · by_cases h3 : b = sysModules
      · subst h3
        rw [Hm] at z
        by_cases h2 : K.lookup sysModules = none
        · exact h2
        · rw [if_neg h2] at z
          exact absurd rfl z
      · exact absurd (Ho b h1 h3) z
end
/-- the goal that the head leaves, from the law's promise; the modules' dict is in sight -/
theorem walk_y {l : PySem.W.OpenLaw} {n k : Nat} {q : Program} {loose : List Str} {XP : (Str → Option Value) → Heap → Prop} {YP : World → Heap → Prop} {d : DefRec} {K : Params → PySem.W.Frag} {sp : PySem.W.Frag → Sp} {x : Str}
    (hn : l.most = some n) (few : n ≤ sizeLine) (hdf : d.params.defaults = []) (himp : importsNone q = true) (room : Room k callerA) (hY : ∀ (w : World) (h : Heap), YP w h → (K w.params).In h)
    (F : ∀ (w : World) (mg : Str → Option Value) (fa : Addr) (h : Heap), (K w.params).In h → h.Ns mainGlobals mg → mg d.name = some (.ref fa) →
      ∃ fd : FuncData, (∀ (s : Shared) (u : Value), BindsTo s fd ⟨[u], []⟩ [(x, u)]) ∧ ∀ base : Heap, (K w.params).In base → base.Ns mainGlobals mg → FnG l.prog w (K w.params) mg base k fa fd [x] (sp (K w.params)))
    (promise : ∀ (K : PySem.W.Frag) (H : Hp) (a : Addr) (ns : List Int), ns.length ≤ n → Sy K H → SqL K H a (ns.map V.int) → sp K [.ref a] H (fun v _ => v = .bl true) E0) :
    PySem.W.WalkO q loose XP YP l.row.toRowW d [] (fun f vs => PySem.call f vs) := by
  refine Att.attach_call hn hdf fun w s₀ s₁ mg mb fa o pm cd doc a vs ns G Y ho hd hcd hmg hobj hints hlen hg => ?_
  have kin := hY w _ Y
  obtain ⟨fd, bind, made⟩ := F w mg fa _ kin G.T.g hmg
  obtain ⟨mm, hmm, _⟩ := (G.T.seer himp).mods
  exact law_y kin G.T.g G.T.b G.T.builtins G.T.nolimit hmm hg hobj hints (Nat.le_trans hlen few) room made bind fun H hs hS => promise _ H a ns hlen hs hS
end NL
/-! len of an object by its own __len__; dict of a tuple of pairs, of a zip of two tuples -/
namespace NL
open PySem L2 Evl
/-! ### len(x), the class has __len__ -/
/-! ### tuple(l): an object that is known to have no dict of its own -/
/-! ### dict(t), t a tuple of pairs -/
/-! ### dict(zip(s, t)), s and t tuples -/
end NL
/-! a caught exception that is kept in a local behind its suite -/
namespace NL
open PySem L2 Evl
/-- an exception of the class cls at a, its own dict at d; raised or not -/
def XcO (cls : Value) (d : Option Addr) (a : Addr) : HO := .ext fun h => ∃ (ob : Obj) (vs : Array Value), h.get? a = some ob ∧ Zc cls d ob ∧ ob.data = .fields vs
theorem xcO_ok {P : Program} {w : World} {H : Hp} {h : Heap} {a : Addr} {cls : Value} {d : Option Addr} {ob : Obj} {vs : Array Value} (e : h.get? a = some ob) (z : Zc cls d ob) (dt : ob.data = .fields vs) : ObjOk P w H h a (XcO cls d a) :=
  ⟨⟨ob, vs, e, z, dt⟩, ⟨ob, e⟩, fun _ _ ⟨o, v, q, r⟩ k => ⟨o, v, k o q, r⟩⟩
/-- an object that is there, untracked, and was not there at the def's entry: from now on it is tracked -/
theorem track {X : Cx} {pins : List (Addr × Obj)} {σ : L2.St} {H : Hp} {s : Shared} {a : Addr} {o : HO} (I : Inv X pins σ H s) (n0 : X.s_0.heap.get? a = none) (na : H a = none) (nl : a ≠ X.env.locals)
    (nc : ∀ x c, X.env.cells.lookup x = some c → c ≠ a) (np : ∀ p ∈ X.pn ++ pins, p.1 ≠ a) (new : ObjOk X.prog X.w (upd H a o) s.heap a o) : Inv X pins σ (upd H a o) s := by
  have old : ∀ {b : Addr} {ob : Obj}, X.s_0.heap.get? b = some ob → b ≠ a := fun {b ob} e z => by
    subst z
    rw [n0] at e
    cases e
  have far : ∀ {b : Addr} {u : HO}, H b = some u → upd H a o b = some u := fun {b u} e => by
    rw [upd_ne (ne_of_none e na)]
    exact e
  refine ⟨I.ok, I.os, I.bare, ⟨I.base.keep, I.base.slot, ?_, I.base.there, ?_, ?_, ?_⟩, I.loc, I.cell, ?_, ?_, ?_, ?_, I.len⟩
  · intro b ob e n hx
    rw [upd_ne (old e)]
    exact I.base.free b ob e n hx
  · exact fun b xs e => far (I.base.tups b xs e)
  · exact fun b ob u e => far (I.base.frzs b ob u e)
  · intro b ps e
    obtain ⟨m, q⟩ := I.base.tbls b ps e
    exact ⟨m, far q⟩
  · rw [upd_ne (Ne.symm nl)]
    exact I.free
  · intro x c e
    rw [upd_ne (nc x c e)]
    exact I.freeC x c e
  · intro p hp
    obtain ⟨q1, q2, q3⟩ := I.pin p hp
    exact ⟨q1, by rw [upd_ne (np p hp)]; exact q2, q3⟩
  · intro b u e
    by_cases z : b = a
    · subst z
      rw [upd_same] at e
      cases e
      exact new
    · rw [upd_ne z] at e
      exact (I.hok b u e).stay (fun _ _ _ q => q) (fun _ q => far q) fun _ _ q => far q
/-- 'except x as n: suite', the exception tracked behind the suite: slot i is n's -/
def wKp (K : PySem.W.Frag) (c : Value) (i : Nat) (ts : Addr → Value → Option Addr → TS) (Wo : WX) (D : Ends) : WX := fun cls d σ H =>
  ∃ b, PySem.W.exmOne K cls c = some b ∧
    (b = true → ∀ a, H a = none → ts a cls d { nx := fun σ' H' => D.nx (σ'.set i none) (upd H' a (XcO cls d a)), rt := fun _ _ => False, bk := fun _ _ => False, ct := fun _ _ => False } (σ.set i (some (.ref a))) H) ∧
    (b = false → Wo cls d σ H)
theorem ps_try_keep {X : Cx} {x n : Str} {c : Value} {i : Nat} {body suite : List Stmt} {b0 : Stmt} {np_ pos pos' : Pos} {tb : WX → TS} {ts : Addr → Value → Option Addr → TS} {Wo : WX}
    (hst : X.stack = X.env :: X.outer) (hfr : X.env.frame = some X.env.locals) (hex : X.ex = []) (hN : X.N.Nodup) (hi : X.N[i]? = some n) (hln : X.env.kindOf n = some .local) (hc : Names X x c) (tk : Takes X Wo)
    (hb : ∀ (W : WX) (pn : List (Addr × Obj)) (xe : Value → Shared → Prop), Takes (X.tr pn xe) W → PassesOwn (model X.prog X.w) X.A X.env xe → PSs (X.tr pn xe) body (tb W))
    (hsu : ∀ (a : Addr) (oe : Obj) (cls : Value) (d : Option Addr) (pn : List (Addr × Obj)), Zc cls d oe → (∃ vs, oe.data = .fields vs) → PSs (X.suite a ((a, oe) :: pn)) (b0 :: suite) (ts a cls d)) :
    PS X (.Try body [.ExceptHandler (some (.Name x np_)) (some n) (b0 :: suite) pos'] [] [] pos) (fun D σ H => tb (wKp X.K c i ts Wo D) D σ H) := by
  refine ⟨fun pins s σ H D I h => wpAny_Try_except ?_⟩
  have okX := I.ok
  have frm : X.A.frames = some (X.env :: X.outer) := okX.frames.trans (congrArg some hst)
  refine wpAny_mono ((hb _ (X.pn ++ pins) _ (fun u s' hx => ?_) PassesOwn.looking).run [] s σ H D (I.toTry _) h) (fun f s1 hsp => ?_) (fun e s1 he => he)
  rotate_left
  · cases f with
    | next =>
      obtain ⟨σ1, H1, J1, q1⟩ := hsp
      exact wpAny_execs_nil ⟨σ1, H1, J1.ofTry okX, q1⟩
    | brk =>
      obtain ⟨σ1, H1, J1, q1⟩ := hsp
      exact ⟨σ1, H1, J1.ofTry okX, q1⟩
    | cont =>
      obtain ⟨σ1, H1, J1, q1⟩ := hsp
      exact ⟨σ1, H1, J1.ofTry okX, q1⟩
    | ret u =>
      obtain ⟨v1, σ1, H1, J1, r1, q1⟩ := hsp
      exact ⟨v1, σ1, H1, J1.ofTry okX, r1, q1⟩
  obtain ⟨a, B, sI, pins', σ', H', cls, d, rfl, J', nb, up, sky, na, hos, ag, b, hb1, hyes, hno⟩ := hx
  have J : Inv X pins σ' H' sI := J'.ofTry okX
  have sk : Sky B (X.env :: X.outer) a (Zc cls d) X.env.locals s'.heap := hst ▸ sky
  refine Sky.land Zc.steady frm hfr sk fun g3 fly up3 => ?_
  have J3 : Inv X pins σ' H' { s' with heap := g3 } := J.landed nb fly.1 (up.trans up3) hos ag
  obtain ⟨ob3, vs3, at3, z3, dt3⟩ := fly.there
  have out : a ∉ frs (X.env :: X.outer) := fun hm => by
    obtain ⟨_, ob, e, nf⟩ := fly.2.2.1.mem hm
    rw [at3] at e
    cases e
    exact nf _ dt3
  have nl : a ≠ X.env.locals := fun z => out (List.mem_filterMap.mpr ⟨X.env, List.mem_cons_self, z ▸ hfr⟩)
  have nf : a ∉ X.fs := fun hm => by
    obtain ⟨e, he, q⟩ := List.mem_filterMap.mp hm
    exact out (List.mem_filterMap.mpr ⟨e, List.mem_cons_of_mem _ he, q⟩)
  -- it is new
  have gone : sI.heap.get? a = none := by
    cases e : sI.heap.get? a with
    | none => rfl
    | some ob =>
      have z := nb a ob e (by rw [hst]; exact out)
      rw [fly.2.1] at z
      cases z
  have n0 : X.s_0.heap.get? a = none := by
    cases e : X.s_0.heap.get? a with
    | none => rfl
    | some ob =>
      obtain ⟨ob', z⟩ := J.base.there a ob e (by rw [hex]; exact fun z => nomatch z)
      rw [gone] at z
      cases z
  have nc : ∀ y q, X.env.cells.lookup y = some q → q ≠ a := fun y q e z => by
    obtain ⟨v, ob, w1, _⟩ := J.cell y q e
    rw [z, gone] at w1
    cases w1
  have np : ∀ q ∈ X.pn ++ pins, q.1 ≠ a := fun q hq z => by
    have w1 := (J.pin q hq).1
    rw [z, gone] at w1
    cases w1
  -- is it of that class
  have S3 := J3.suite at3 dt3 na nl nf
  refine wpAny_handleBy_cons (codeAny_handlers_test ?_) (fun q => by cases q)
  have lt : PySem.W.Looks (model X.prog X.w) g3 (typeOf (.ref a)) cls := fun A Q E s k q => wpAny_typeOf_ref (k _ _ at3) (z3.1 ▸ q)
  have lm := PySem.W.exm_one (M := model X.prog X.w) J3.kIn lt hb1
  have named : ∀ {Q : Value → Shared → Prop} {E : Value → Shared → Prop}, Q c { s' with heap := g3 } → wpAny (model X.prog X.w) (X.A.mark (some (.ref a))) (eval (.Name x np_) X.env) Q E { s' with heap := g3 } := fun {Q E} q => by
    obtain ⟨hg, hdb, hm | ⟨hm, hv, hnn⟩⟩ := hc
    · exact ld_glob (X := X.suite a _) S3 hg hm q hdb
    · exact ld_blt (X := X.suite a _) S3 hg hm hv q hnn hdb
  refine named (lm.here ?_)
  cases b with
  | true =>
    refine codeAny_handlers_suite_as (HandSPX.lands_againZ fly fun g4 fly4 up4 => ?_)
    have J4 : Inv X pins σ' H' { s' with heap := g4 } := J.landed nb fly4.1 ((up.trans up3).trans up4) hos ag
    obtain ⟨ob4, vs4, at4, z4, dt4⟩ := fly4.there
    have S4 := J4.suite at4 dt4 na nl nf
    refine store_ok (X := X.suite a _) (v := .ref a) S4 hN hi (.inl hln) rfl (fun s5 S5 => ?_) (.inr hln)
    refine wpAny_mono ((hsu a ob4 cls d (X.pn ++ pins) z4 ⟨_, dt4⟩).run [] s5 _ H' _ S5 (hyes rfl a na)) (fun f s6 hsp => ?_) (fun _ _ z => z.elim)
    cases f with
    | next =>
      obtain ⟨σ6, H6, S6, q6⟩ := hsp
      have p6 := S6.pin (a, ob4) (List.mem_append_left _ List.mem_cons_self)
      exact gone_ok (track (S6.unsuite okX) n0 p6.2.1 nl nc np (xcO_ok p6.1 z4 dt4)) hN hi hln fun s7 J7 => ⟨_, _, J7, q6⟩
    | brk =>
      obtain ⟨_, _, _, q6⟩ := hsp
      exact q6.elim
    | cont =>
      obtain ⟨_, _, _, q6⟩ := hsp
      exact q6.elim
    | ret u =>
      obtain ⟨_, _, _, _, _, q6⟩ := hsp
      exact q6.elim
  | false =>
    refine wpAny_handleBy_nil ?_
    obtain ⟨_, _, _, ob, vs, T, _, _, at0, _, dt0, e1, _⟩ := id fly
    unfold PySem.passOn
    refine wpAny_bind (wpAny_field at0 dt0 e1 ?_)
    rw [if_neg (fun z => by cases z)]
    have on : wpAny (model X.prog X.w) X.A (setFlight (.ref a) X.env.frame) (fun _ s4 => wpAny (model X.prog X.w) X.A (throw (.ref a) : Sem Flow) (SP X pins D) X.xe s4) X.xe { s' with heap := g3 } := by
      rw [hfr]
      exact HandSPX.setFlight_upZ fly fun g4 fly4 up4 => wpAny_throw (tk _ _ ⟨a, B, sI, pins, σ', H', cls, d, rfl, J, nb, (up.trans up3).trans up4, Or.inr (Or.inr (hst ▸ fly4)), na, hos, ag, hno rfl⟩)
    first
      | exact wpAny_bind on
      | exact wpAny_bind (wpAny_pure (wpAny_bind on))
/-- e.f, e a tracked exception of the class C with its own dict -/
def tXk (C : Addr) (f : Str) (te : TE) : TE := fun σ H Q => te σ H fun x H1 => ∃ (a dd : Addr) (fs : List (Str × V)) (v : V), x = .ref a ∧ H1 a = some (XcO (.ref C) (some dd) a) ∧ H1 dd = some (.xd fs) ∧ fs.lookup f = some v ∧ Q v H1
theorem pe_xk {X : Cx} {C : Addr} {e : Expr} {te : TE} {pos : Pos} {f : Str} (T : XfC X.K C) (hno : PySem.W.findIn X.K (.ref C) f = some none) (he : PE X e te) (hb : attributeBase e f X.env (eval e X.env) = eval e X.env := by rfl) :
    PE X (.Attribute e f pos) (tXk C f te) := by
  refine ⟨fun pins s σ H Q I h => attr_of hb (thn (he.run pins s σ H _ I h) fun u s1 hh => ?_)⟩
  obtain ⟨x, H1, I1, rx, a, dd, fs, v, rfl, ha, hdd, hl, q⟩ := hh
  cases rx
  obtain ⟨⟨ob, vs, at1, z, dt⟩, _⟩ := I1.hok a _ ha
  obtain ⟨mA, ns, hr⟩ := I1.hok dd _ hdd
  obtain ⟨od, ho, look⟩ := lookIn_ns ns
  obtain ⟨u, hu, ru⟩ := RelO.some_of (v := v) (o := mA f) (hl ▸ hr f)
  have J : PySem.W.InstAt s1.heap a ob C (some od) := ⟨at1, z.1, by unfold PySem.W.notCls; rw [dt] <;> rfl, z.2 ▸ ho⟩
  exact HandSPX.exc_get I1.kIn J T.ga T.gg T.exC (PySem.W.findObj_own T.hdC hno rfl (by rw [look, hu])) (handed_of ru) ⟨v, H1, I1.tok _, ru, q⟩
/-! ### an exception that is made and kept as a value -/
/-! ### isinstance of a tracked exception, whatever its dict -/
structure XcC (K : PySem.W.Frag) (C : Addr) : Prop extends ExcC K C where
  kC : PySem.W.keepIn K (.ref C) = true
  tyC : PySem.W.typeIn K (.ref C) = some (.type "type")
theorem XcC.xf {K : PySem.W.Frag} {C : Addr} (c : XcC K C) : XfC K C := ⟨c.hg, c.hk, c.hs, c.hd⟩
theorem XcC.exm {K : PySem.W.Frag} {C : Addr} {cls : Value} {b : Bool} (c : XcC K C) (h : PySem.W.subIn K cls (.ref C) = some b) : PySem.W.exmOne K cls (.ref C) = some b := PySem.W.exm_ref c.hs c.hd c.tyC h
theorem XcC.kit {K : PySem.W.Frag} {C D : Addr} {b : Bool} (c : XcC K C) (h : PySem.W.subIn K (.ref D) (.ref C) = some b) (hb : D = C → b = true) : PySem.W.kitOne K (.ref D) (.ref C) = some b := by
  unfold PySem.W.kitOne
  by_cases e : ((Value.ref D == Value.ref C) = true)
  · rw [if_pos e, hb (Value.ref.inj (beq_iff_eq.mp e))]
  · rw [if_neg e]
    obtain ⟨cd, q, _⟩ := PySem.W.any_some c.hd
    have e2 : ((PySem.W.clsIn K C).isSome && PySem.W.typeIn K (.ref C) == some (.type "type")) = true := by rw [q, c.tyC] <;> rfl
    change (if ((PySem.W.clsIn K C).isSome && PySem.W.typeIn K (.ref C) == some (.type "type")) = true then PySem.W.subIn K (.ref D) (.ref C) else none) = some b
    rw [if_pos e2]
    exact h
section
open PySem.W PySem.Calls PyProof.Rows
variable {prog : Program} {w : World} {A : Around} {E : Value → Shared → Prop} {s : Shared} {K : Frag} {x D : Addr} {ox : Obj} {od : Option Obj}
theorem cls_found (c : ExcC K D) : findObj K D od "__class__" = some (.bind (.builtin "getset_descriptor.__get__") (.builtin "object.__class__")) := by
  obtain ⟨cd, e, _⟩ := any_some c.hd
  unfold findObj
  rw [e, Option.bind_some, c.ha, Option.bind_some]
  simp [c.hn, c.ht]
theorem cls_asked {Q : Option Value → Shared → Prop} (c : ExcC K D) (X : K.In s.heap) (I : InstAt s.heap x ox D od) (q : Q (some (.ref D)) { s with toks := s.toks + 1 }) : wpAny (model prog w) A (getAttr? (.ref x) "__class__") Q E s := by
  obtain ⟨h0, g, d, t, os⟩ := s
  have ty := I.type (M := model prog w)
  have by1 := looks_findIn (M := model prog w) X c.hg
  have by2 := looks_findIn (M := model prog w) X c.hk
  have by3 := looks_find (M := model prog w) X I (cls_found c)
  have isE : Looks (model prog w) h0 (isInstance (.ref x) (.type "BaseException")) true := ty.andThen (looks_subIn X c.hs)
  have n1 : (Value.builtin "BaseException.__getattribute__" == Value.builtin "object.__getattribute__") = false := by decide +kernel
  have n2 : (onTheHeap (Value.ref D) && Value.builtin "BaseException.__getattribute__" == Value.builtin "object.__getattribute__") = false := by rw [n1]; rfl
  have n3 : (false && onTheHeap (Value.builtin "BaseException.__getattribute__")) = false := rfl
  unfold getAttr? getAttrBy? getAttrBy
  refine wpAny_bind (wpAny_mkText (wpAny_bind (wpAny_attempt (wpAny_holding (wpAny_bind (ty.at (wpAny_bind (by1.at ?_))))))))
  change wpAny _ _ (if (onTheHeap (Value.ref D) && Value.builtin "BaseException.__getattribute__" == Value.builtin "object.__getattribute__") = true then _ else _) _ _ _
  rw [n2, if_neg (by decide)]
  unfold getAttrByItsOwn hookBefore
  refine wpAny_bind ?_
  have on : onTheHeap (Value.ref D) = true := rfl
  rw [if_pos on]
  refine by2.at ?_
  refine wpAny_bind (wpAny_attempt (wpAny_holding ?_))
  unfold callGetattribute
  rw [n3, if_neg (by decide)]
  unfold boundAndCalled
  rw [PySem.F.excAttr_ValueError.ga.bind (.ref x)]
  refine wpAny_bind (wpAny_pure ?_)
  change wpAny _ _ (call (.builtin "BaseException.__getattribute__") [.ref x, .str "__class__" t]) _ _ _
  refine wpAny_call (codeAny_call_builtin PySem.F.excAttr_ValueError.ga.plain PySem.F.entry_bexc_ga ?_)
  refine @check_slot (model prog w) _ _ ⟨h0, g, d, t + 1, os⟩ "BaseException.__getattribute__" "BaseException" "__getattribute__" (.ref x) [.str "__class__" t] [] _ (by decide +kernel) (by decide +kernel) isE (PySem.F.args_bexc_ga (.ref x) (.str "__class__" t)) ?_
  unfold Builtin.«object.__getattribute__»
  refine wpAny_bind (wpAny_of_eq (a := ((Value.ref x : Value), [Value.str "__class__" t])) (by first | rfl | (simp only [slotArgs]; rfl)) ?_)
  refine wpAny_bind (wpAny_pure (wpAny_bind (ty.at (wpAny_bind (by3.at ?_)))))
  change wpAny _ _ (holding [Value.builtin "object.__class__"] (call (.builtin "getset_descriptor.__get__") [.builtin "object.__class__", .ref x, .ref D]) >>= ret) _ _ _
  refine wpAny_bind (wpAny_holding (wpAny_call (class_get (s := ⟨h0, g, d, t + 1, os⟩) (ox := ox) (od := od) X I c.hm ?_)))
  refine wpAny_pure ?_
  change wpAny _ _ (handedOut (.ref D)) _ _ _
  rw [handedOut_of (v := .ref D) rfl]
  first | exact wpAny_pure (wpAny_pure q) | exact wpAny_pure q | exact wpAny_pure (wpAny_bind (wpAny_pure (wpAny_pure q)))
theorem kitx_xc (c : ExcC K D) : KitX K (.ref x) (.ref D) (fun h => InstAt h x ox D od) where
  ty := fun _ _ _ I => I.type
  it := fun _ _ X _ => by
    obtain ⟨_, at0, _⟩ := any_some c.hd
    unfold clsIn at at0
    split at at0
    · rename_i ho
      intro _ _ _ _ k q
      unfold isType loadHead
      exact wpAny_bind (wpAny_loadPart (k _ _ (X _ _ ho)) (wpAny_pure q))
    · cases at0
  ne := fun h tp _ _ _ _ X at1 => by
    obtain ⟨_, at0, _⟩ := any_some c.hd
    refine Bool.eq_false_iff.mpr fun q => ?_
    have e : D = tp := Value.ref.inj (beq_iff_eq.mp q)
    subst e
    unfold clsIn at at0
    split at at0
    · rename_i ho
      cases (X _ _ ho).symm.trans at1
    · cases at0
  ca := fun X I k => cls_asked c X I k
end
/-- at a: an exception of the class at D; d: its dict -/
def XcAt (H : Hp) (a D : Addr) (d : Option Addr) : Prop := H a = some (XcO (.ref D) d a) ∧ ∀ dd, d = some dd → ∃ fs, H dd = some (.xd fs)
theorem XcAt.ex {H H' : Hp} {a D : Addr} {d : Option Addr} (h : XcAt H a D d) (e : Ex H H') : XcAt H' a D d := ⟨e _ _ h.1, fun dd hd => by
  obtain ⟨fs, q⟩ := h.2 dd hd
  exact ⟨fs, e _ _ q⟩⟩
theorem inst_xc {X : Cx} {pins : List (Addr × Obj)} {σ : L2.St} {H : Hp} {s : Shared} {a D : Addr} {d : Option Addr} (I : Inv X pins σ H s) (h : XcAt H a D d) : ∃ (ob : Obj) (od : Option Obj), PySem.W.InstAt s.heap a ob D od := by
  obtain ⟨⟨ob, vs, at1, z, dt⟩, _⟩ := I.hok a _ h.1
  have nc : PySem.W.notCls ob = true := by unfold PySem.W.notCls; rw [dt] <;> rfl
  cases d with
  | none => exact ⟨ob, none, at1, z.1, nc, by rw [z.2]; trivial⟩
  | some dd =>
    obtain ⟨fs, hd⟩ := h.2 dd rfl
    obtain ⟨mA, ns, hr⟩ := I.hok dd _ hd
    obtain ⟨od, ho, look⟩ := lookIn_ns ns
    exact ⟨ob, some od, at1, z.1, nc, z.2 ▸ ho⟩
def rIsX (K : PySem.W.Frag) : List V → Hp → VK → Prop := fun xs H Q => ∃ (a D : Addr) (d : Option Addr) (c : V) (u : Value) (b : Bool), xs = [.ref a, c] ∧ XcAt H a D d ∧ XcC K D ∧ ClsV c u ∧ PySem.W.kitOne K (.ref D) u = some b ∧ Q (.bl b) H
def rIsXT (K : PySem.W.Frag) : List V → Hp → VK → Prop := fun xs H Q => ∃ (a D tp : Addr) (d : Option Addr) (cs : List V) (us : List Value) (b : Bool), xs = [.ref a, .ref tp] ∧ XcAt H a D d ∧ XcC K D ∧ H tp = some (.tup cs) ∧ Paired ClsV cs us ∧ PySem.W.kitAny K (.ref D) us = some b ∧ Q (.bl b) H
section
variable {X : Cx} {K : PySem.W.Frag}
theorem isxK (h : X.K = K) : CallR X (.builtin "isinstance") (rIsX K) := by
  subst h
  intro pins s σ H xs us Q I r told
  obtain ⟨a, D, d, c, u, b, rfl, hx, hc, k, e, q⟩ := told
  obtain ⟨u1, u2, rfl, r1, r2⟩ := vals2 r
  have e2 := k.eq r2
  subst e2
  cases (show u1 = Value.ref a from r1)
  obtain ⟨ob, od, J⟩ := inst_xc I hx
  exact PySem.W.kia_one (kitx_xc hc.toExcC) I.kIn J e (fun z => nomatch z) fun tk => ⟨.bl b, H, I.tok tk, rfl, q⟩
theorem isxTK (h : X.K = K) : CallR X (.builtin "isinstance") (rIsXT K) := by
  subst h
  intro pins s σ H xs us Q I r told
  obtain ⟨a, D, tp, d, cs, ws, b, rfl, hx, hc, hT, k, e, q⟩ := told
  obtain ⟨u1, u2, rfl, r1, r2⟩ := vals2 r
  cases (show u1 = Value.ref a from r1)
  cases (show u2 = Value.ref tp from r2)
  obtain ⟨ob, od, J⟩ := inst_xc I hx
  obtain ⟨_, its, rv, o, h1, h2, n, h3⟩ := (show ObjOk X.prog X.w H s.heap tp (.tup cs) from I.hok tp _ hT)
  have e3 := ClsV.all k rv
  subst e3
  obtain ⟨oc, od', dt, sl⟩ := o
  simp only at h2 h3
  subst h2 h3
  exact PySem.W.kia_tup (kitx_xc hc.toExcC) I.kIn J h1 e (fun z => nomatch z) fun tk => ⟨.bl b, H, I.tok tk, rfl, q⟩
end
theorem kit_b {K : PySem.W.Frag} {D : Addr} {T : String} {b : Bool} (m : PySem.W.kitMeta T = true) (h : PySem.W.subIn K (.ref D) (.type T) = some b) : PySem.W.kitOne K (.ref D) (.type T) = some b := by
  unfold PySem.W.kitOne
  have ne : ¬ ((Value.ref D == Value.type T) = true) := fun z => by cases beq_iff_eq.mp z
  rw [if_neg ne]
  change (if PySem.W.kitMeta T = true then PySem.W.subIn K (.ref D) (.type T) else none) = some b
  rw [if_pos m]
  exact h
/-! ### __init__ of an exception that keeps what it is given -/
def spXInit (K : PySem.W.Frag) (f : Str) : Sp := fun vs H Q _ => ∃ (a C : Addr) (v : V), vs = [.ref a, v] ∧ OexC K C ∧ PySem.W.findIn K (.ref C) f = some none ∧ H a = some (exo a C none) ∧ ∀ dx, H dx = none → dx ≠ a → Q .non (upd (upd H dx (exd dx [(f, v)])) a (exo a C (some dx)))
end NL
/-! z[::-1] of a text; an exception with a field, made -/
namespace NL
open PySem PySem.Spec PyProof.Rows L2 Evl
/-- C(v), C keeping what it is given: behind its __init__ -/
theorem mkx {K : PySem.W.Frag} {C : Addr} {f : Str} {v : V} {H : Hp} {Q : XK} (c : OexC K C) (no : PySem.W.findIn K (.ref C) f = some none) (q : ∀ d, H d = none → Q (.ref C) (some d) (upd H d (.xd [(f, v)]))) :
    [v].length ≤ 1000 ∧ ∀ a, H a = none → spXInit K f (.ref a :: ([v] ++ [])) (upd H a (exo a C none))
      (fun u H2 => u = .non ∧ ∃ (d : Addr) (fs : List (Str × V)), H2 a = some (exo a C (some d)) ∧ H2 d = some (exd d fs) ∧ H d = none ∧ Q (.ref C) (some d) (upd (del H2 a) d (.xd fs))) (fun _ _ _ => False) := by
  refine ⟨by simp, fun a na => ⟨a, C, v, rfl, c, no, upd_same, fun dx nd ne => ⟨rfl, dx, [(f, v)], upd_same, ?_, ?_, ?_⟩⟩⟩
  · rw [upd_ne ne]
    exact upd_same
  · rw [upd_ne ne] at nd
    exact nd
  · rw [upd_ne ne] at nd
    have e : upd (del (upd (upd (upd H a (exo a C none)) dx (exd dx [(f, v)])) a (exo a C (some dx))) a) dx (.xd [(f, v)]) = upd H dx (.xd [(f, v)]) := by
      funext b
      by_cases hb : b = dx
      · subst hb
        rw [upd_same, upd_same]
      · rw [upd_ne hb, upd_ne hb]
        by_cases ha : b = a
        · subst ha
          rw [del_same, na]
        · rw [del_ne ha, upd_ne ha, upd_ne hb, upd_ne ha]
    rw [e]
    exact q dx nd
end NL
/-! a step, as a plain function: hands and groups by their names -/
namespace NL
open PySem L2 Evl
inductive How where
  | out | loose | waits | within
deriving DecidableEq
def How.str : How → Str
  | .out => "out" | .loose => "loose" | .waits => "waits" | .within => "within"
structure HR where
  row : Int
  last : Int
  how : How
  looks : Option Int
deriving DecidableEq
structure GR where
  holder : Option Str
  count : Int
  places : List (Str × Bool)
deriving DecidableEq
inductive Row where
  | take (l : Option Int) | tri | let_ | say (n : Int) | goto (n : Int) | iff (a n : Int)
deriving DecidableEq
section
variable {α : Type}
def getN : List (Str × α) → Str → Option α
  | [], _ => none
  | (k, v) :: r, n => if k = n then some v else getN r n
def setN : List (Str × α) → Str → α → List (Str × α)
  | [], _, _ => []
  | (k, v) :: r, n, w => (k, if k = n then w else v) :: setN r n w
theorem getN_set : ∀ (xs : List (Str × α)) (n m : Str) (w : α), getN (setN xs n w) m = if m = n then (getN xs n).map (fun _ => w) else getN xs m
  | [], n, m, w => by simp [getN, setN]
  | (k, v) :: r, n, m, w => by
    have ih := getN_set r n m w
    simp only [setN, getN]
    by_cases h1 : k = m
    · subst h1
      by_cases h2 : k = n
      · subst h2
        simp
      · simp [h2]
    · by_cases h2 : m = n
      · subst h2
        simp [h1, ih]
      · simp [h1, h2, ih]
theorem getN_same {xs : List (Str × α)} {n : Str} {v w : α} (h : getN xs n = some v) : getN (setN xs n w) n = some w := by rw [getN_set, if_pos rfl, h]; rfl
theorem getN_other {xs : List (Str × α)} {n m : Str} {w : α} (h : m ≠ n) : getN (setN xs n w) m = getN xs m := by rw [getN_set, if_neg h]
end
abbrev e2 (a : String) (x : Str) : PyData := .tuple [.str a, .str x]
abbrev e3 (a : String) (x y : Str) : PyData := .tuple [.str a, .str x, .str y]
abbrev e4 (a : String) (x y z : Str) : PyData := .tuple [.str a, .str x, .str y, .str z]
structure DS where
  hs : List (Str × HR)
  gs : List (Str × GR)
  told : List PyData
  firsts : List Str
structure Sta where
  paths : List (Str × List Str)
  bounds : List (Str × Int)
  progs : List (Str × List Row)
def DS.loose (d : DS) (m : Str) : Bool := match getN d.hs m with
  | some r => decide (r.how = .loose)
  | none => false
structure SH where
  hs : List (Str × HR)
  gs : List (Str × GR)
deriving DecidableEq
end NL
/-! hands and groups in the heap; a draft -/
namespace NL
open PySem L2 Evl
def optI : Option Int → V
  | none => .non
  | some i => .int i
def optS : Option Str → V
  | none => .non
  | some s => .str s
def HV (K : PySem.W.Frag) (H : Hp) (v : V) (r : HR) : Prop := ∃ a, v = .ref a ∧ SqT K H a [.int r.row, .int r.last, .str r.how.str, optI r.looks]
def PlV (K : PySem.W.Frag) (H : Hp) (v : V) (p : Str × Bool) : Prop := ∃ a, v = .ref a ∧ SqT K H a [.str p.1, .bl p.2]
def PlsV (K : PySem.W.Frag) (H : Hp) (v : V) (ps : List (Str × Bool)) : Prop := ∃ a xs, v = .ref a ∧ SqT K H a xs ∧ Paired (PlV K H) xs ps
def GV (K : PySem.W.Frag) (H : Hp) (v : V) (g : GR) : Prop := ∃ a u, v = .ref a ∧ SqT K H a [optS g.holder, .int g.count, u] ∧ PlsV K H u g.places
def EvV (K : PySem.W.Frag) (H : Hp) (v : V) (d : PyData) : Prop := Dy K H v d ∧ tupOnly d = true
def PaV (K : PySem.W.Frag) (H : Hp) (v : V) (p : List Str) : Prop := ∃ a, v = .ref a ∧ SqT K H a (p.map V.str)
def Row.items : Row → List V
  | .take l => [.str "take", optI l]
  | .tri => [.str "try"]
  | .let_ => [.str "let"]
  | .say n => [.str "say", .int n]
  | .goto n => [.str "goto", .int n]
  | .iff a n => [.str "if", .int a, .int n]
def RowV (K : PySem.W.Frag) (H : Hp) (v : V) (r : Row) : Prop := ∃ a, v = .ref a ∧ SqT K H a r.items
def PrV (K : PySem.W.Frag) (H : Hp) (v : V) (rs : List Row) : Prop := ∃ a xs, v = .ref a ∧ SqT K H a xs ∧ Paired (RowV K H) xs rs
def BdV (v : V) (b : Int) : Prop := v = .int b
section
variable {K : PySem.W.Frag} {H H' : Hp} {v : V}
theorem paired_mono {α β : Type} {R S : α → β → Prop} (h : ∀ a b, R a b → S a b) : ∀ {xs : List α} {ys : List β}, Paired R xs ys → Paired S xs ys
  | _, _, .nil => .nil
  | _, _, .cons a t => .cons (h _ _ a) (paired_mono h t)
theorem paired_len {α β : Type} {R : α → β → Prop} : ∀ {xs : List α} {ys : List β}, Paired R xs ys → xs.length = ys.length
  | _, _, .nil => rfl
  | _, _, .cons _ t => by rw [List.length_cons, List.length_cons, paired_len t]
theorem paired_app {α β : Type} {R : α → β → Prop} : ∀ {xs us : List α} {ys vs : List β}, Paired R xs ys → Paired R us vs → Paired R (xs ++ us) (ys ++ vs)
  | _, _, _, _, .nil, h => h
  | _, _, _, _, .cons a t, h => .cons a (paired_app t h)
theorem HV.st {r : HR} (h : HV K H v r) (s : ST K H H') : HV K H' v r := by
  obtain ⟨a, e, t⟩ := h
  exact ⟨a, e, s _ _ t⟩
theorem PlV.st {p : Str × Bool} (h : PlV K H v p) (s : ST K H H') : PlV K H' v p := by
  obtain ⟨a, e, t⟩ := h
  exact ⟨a, e, s _ _ t⟩
theorem PlsV.st {ps : List (Str × Bool)} (h : PlsV K H v ps) (s : ST K H H') : PlsV K H' v ps := by
  obtain ⟨a, xs, e, t, q⟩ := h
  exact ⟨a, xs, e, s _ _ t, paired_mono (fun _ _ z => z.st s) q⟩
theorem GV.st {g : GR} (h : GV K H v g) (s : ST K H H') : GV K H' v g := by
  obtain ⟨a, u, e, t, q⟩ := h
  exact ⟨a, u, e, s _ _ t, q.st s⟩
theorem EvV.st {d : PyData} (h : EvV K H v d) (s : ST K H H') : EvV K H' v d := ⟨dy_st s d v h.2 h.1, h.2⟩
theorem PaV.st {p : List Str} (h : PaV K H v p) (s : ST K H H') : PaV K H' v p := by
  obtain ⟨a, e, t⟩ := h
  exact ⟨a, e, s _ _ t⟩
theorem RowV.st {r : Row} (h : RowV K H v r) (s : ST K H H') : RowV K H' v r := by
  obtain ⟨a, e, t⟩ := h
  exact ⟨a, e, s _ _ t⟩
theorem PrV.st {rs : List Row} (h : PrV K H v rs) (s : ST K H H') : PrV K H' v rs := by
  obtain ⟨a, xs, e, t, q⟩ := h
  exact ⟨a, xs, e, s _ _ t, paired_mono (fun _ _ z => z.st s) q⟩
end
/-! ### dicts by names -/
section
variable {α : Type} {R : V → α → Prop}
def Kr (R : V → α → Prop) (kv : Key × V) (x : Str × α) : Prop := kv.1 = .inr x.1 ∧ R kv.2 x.2
def Dm (R : V → α → Prop) (H : Hp) (d : Addr) (xs : List (Str × α)) : Prop := ∃ kvs, H d = some (.dK kvs) ∧ Paired (Kr R) kvs xs ∧ xs.length ≤ 1000
theorem kr_val (n : Str) : ∀ {kvs : List (Key × V)} {xs : List (Str × α)}, Paired (Kr R) kvs xs → (valV kvs (.inr n) = none ∧ getN xs n = none) ∨ ∃ v x, valV kvs (.inr n) = some v ∧ getN xs n = some x ∧ R v x
  | _, _, .nil => Or.inl ⟨rfl, rfl⟩
  | _, _, .cons (a := kv) (b := x) h t => by
    obtain ⟨n', d⟩ := x
    by_cases e : n' = n
    · exact Or.inr ⟨kv.2, d, valV_pos (h.1.trans (by rw [e])), by simp [getN, e], h.2⟩
    · have ne : ¬ kv.1 = .inr n := fun z => e (by rw [h.1] at z; exact Sum.inr.inj z)
      rw [valV_neg ne]
      have z := kr_val n t
      simp only [getN, if_neg e]
      exact z
theorem Dm.get {H : Hp} {d : Addr} {xs : List (Str × α)} {n : Str} {x : α} (h : Dm R H d xs) (hn : getN xs n = some x) : ∃ v, DGet H d (.str n) (some v) ∧ R v x := by
  obtain ⟨kvs, h1, h2, h3⟩ := h
  rcases kr_val n h2 with ⟨_, b⟩ | ⟨v, y, a, b, r⟩
  · rw [hn] at b
    cases b
  · rw [hn] at b
    cases b
    exact ⟨v, a ▸ DGet.k (k := .inr n) h1, r⟩
theorem Dm.st {S : V → α → Prop} {H H' : Hp} {d : Addr} {xs : List (Str × α)} (h : Dm R H d xs) (e : ∀ o, H d = some o → H' d = some o) (s : ∀ v x, R v x → S v x) : Dm S H' d xs := by
  obtain ⟨kvs, h1, h2, h3⟩ := h
  exact ⟨kvs, e _ h1, paired_mono (fun _ _ z => ⟨z.1, s _ _ z.2⟩) h2, h3⟩
theorem Dm.dk {H : Hp} {d : Addr} {xs : List (Str × α)} (h : Dm R H d xs) : ∃ kvs, H d = some (.dK kvs) := ⟨_, h.choose_spec.1⟩
end
/-! ### a draft -/
structure DrA where
  q : Addr
  dx : Addr
  pa : Addr
  bo : Addr
  pr : Addr
  hd : Addr
  gd : Addr
  tl : Addr
  fl : Addr
def DrA.fields (A : DrA) : List (Str × V) := [("paths", .ref A.pa), ("bounds", .ref A.bo), ("programs", .ref A.pr), ("hands", .ref A.hd), ("groups", .ref A.gd), ("told", .ref A.tl), ("firsts", .ref A.fl)]
structure DrAt (K : PySem.W.Frag) (C : Addr) (H : Hp) (A : DrA) (d : DS) : Prop where
  ob : H A.q = some (.ins C A.dx A.fields)
  hs : Dm (HV K H) H A.hd d.hs
  gs : Dm (GV K H) H A.gd d.gs
  tl : ∃ vs, H A.tl = some (.lst vs) ∧ Paired (EvV K H) vs d.told ∧ vs.length ≤ 90000
  fl : H A.fl = some (.lst (d.firsts.map V.str)) ∧ d.firsts.length ≤ 90000
  nd : A.hd ≠ A.gd ∧ A.tl ≠ A.fl
/-- what isn't the draft's own stays -/
def K4 (A : DrA) (H H' : Hp) : Prop := ∀ a o, a ≠ A.hd → a ≠ A.gd → a ≠ A.tl → a ≠ A.fl → H a = some o → H' a = some o
theorem K4.refl (A : DrA) (H : Hp) : K4 A H H := fun _ _ _ _ _ _ h => h
theorem K4.trans {A : DrA} {H H1 H2 : Hp} (a : K4 A H H1) (b : K4 A H1 H2) : K4 A H H2 := fun x o n1 n2 n3 n4 e => b x o n1 n2 n3 n4 (a x o n1 n2 n3 n4 e)
theorem K4.ex {A : DrA} {H H1 : Hp} (e : Ex H H1) : K4 A H H1 := fun x o _ _ _ _ h => e x o h
section
variable {K : PySem.W.Frag} {C : Addr} {H H' : Hp} {A : DrA} {d : DS} {s : Sta}
theorem DrAt.off (h : DrAt K C H A d) {a : Addr} {o : HO} (e : H a = some o) (n1 : ∀ k, o ≠ .dK k) (n2 : ∀ l, o ≠ .lst l) : a ≠ A.hd ∧ a ≠ A.gd ∧ a ≠ A.tl ∧ a ≠ A.fl := by
  obtain ⟨k1, z1⟩ := h.hs.dk
  obtain ⟨k2, z2⟩ := h.gs.dk
  obtain ⟨vs, z3, _⟩ := h.tl
  have z4 := h.fl.1
  refine ⟨fun z => ?_, fun z => ?_, fun z => ?_, fun z => ?_⟩
  · subst z
    rw [z1] at e
    cases e
    exact n1 _ rfl
  · subst z
    rw [z2] at e
    cases e
    exact n1 _ rfl
  · subst z
    rw [z3] at e
    cases e
    exact n2 _ rfl
  · subst z
    rw [z4] at e
    cases e
    exact n2 _ rfl
theorem DrAt.ex (h : DrAt K C H A d) (e : Ex H H') : DrAt K C H' A d := by
  have st : ST K H H' := ST.ex e
  obtain ⟨vs, t1, t2, t3⟩ := h.tl
  exact ⟨e _ _ h.ob, h.hs.st (fun _ z => e _ _ z) fun _ _ z => z.st st, h.gs.st (fun _ z => e _ _ z) fun _ _ z => z.st st, ⟨vs, e _ _ t1, paired_mono (fun _ _ z => z.st st) t2, t3⟩, ⟨e _ _ h.fl.1, h.fl.2⟩, h.nd⟩
end
end NL
/-! statements about a draft -/
namespace NL
open PySem L2 Evl
theorem q_asgR {te : TE} {tz : TS} {D : Ends} {σ : L2.St} {H : Hp} {i : Nat} (M : V → Hp → Prop) (h : ∀ R : V → Hp → Prop, (∀ v H', M v H' → R v H') → te σ H R) (k : ∀ v H', M v H' → tz D (σ.set i (some v)) H') : tSeq (tAsg te (gName i)) tz D σ H := h (fun v H1 => tz D (σ.set i (some v)) H1) k
end NL
/-! a house in the heap -/
namespace NL
open PySem L2 Evl
structure HoA where
  p : Addr
  dx : Addr
  pa : Addr
  bo : Addr
  pr : Addr
  hd : Addr
  gd : Addr
  pv : V
  bv : V
def HoA.fields (B : HoA) : List (Str × V) := [("plan", B.pv), ("book", B.bv), ("paths", .ref B.pa), ("bounds", .ref B.bo), ("programs", .ref B.pr), ("hands", .ref B.hd), ("groups", .ref B.gd)]
structure HoAt (K : PySem.W.Frag) (C : Addr) (H : Hp) (B : HoA) (s : Sta) (x : SH) : Prop where
  ob : H B.p = some (.ins C B.dx B.fields)
  pa : Dm (PaV K H) H B.pa s.paths
  bo : Dm BdV H B.bo s.bounds
  pr : Dm (PrV K H) H B.pr s.progs
  hs : Dm (HV K H) H B.hd x.hs
  gs : Dm (GV K H) H B.gd x.gs
section
variable {K : PySem.W.Frag} {C : Addr} {H H' : Hp} {B : HoA} {s : Sta} {x : SH}
/-- all but the house's own place stays -/
theorem st_ins {p dx : Addr} {fs : List (Str × V)} (h : H p = some (.ins C dx fs)) (k : Kp p p H H') : ST K H H' := fun a xs t => by
  have no : ∀ {u : HO}, H a = some u → (∀ C' dx' fs', u ≠ .ins C' dx' fs') → H' a = some u := fun {u} z n => by
    have : a ≠ p := fun y => by
      subst y
      rw [h] at z
      cases z
      exact n _ _ _ rfl
    exact k _ _ this this z
  rcases t with (z | ⟨ob, z⟩) | z
  · exact Or.inl (Or.inl (no z fun _ _ _ y => by cases y))
  · exact Or.inl (Or.inr ⟨ob, no z fun _ _ _ y => by cases y⟩)
  · exact Or.inr z
theorem HoAt.ex (h : HoAt K C H B s x) (e : Ex H H') : HoAt K C H' B s x := by
  have st : ST K H H' := ST.ex e
  exact ⟨e _ _ h.ob, h.pa.st (fun _ z => e _ _ z) fun _ _ z => z.st st, h.bo.st (fun _ z => e _ _ z) fun _ _ z => z, h.pr.st (fun _ z => e _ _ z) fun _ _ z => z.st st, h.hs.st (fun _ z => e _ _ z) fun _ _ z => z.st st, h.gs.st (fun _ z => e _ _ z) fun _ _ z => z.st st⟩
theorem Dm.ne {α : Type} {R : V → α → Prop} {d p dx : Addr} {xs : List (Str × α)} {fs : List (Str × V)} (h : Dm R H d xs) (hp : H p = some (.ins C dx fs)) : d ≠ p := fun z => by
  obtain ⟨kvs, e⟩ := h.dk
  rw [z, hp] at e
  cases e
/-- another object changes -/
theorem HoAt.kp (h : HoAt K C H B s x) {q Cq dq : Addr} {fq : List (Str × V)} (hq : H q = some (.ins Cq dq fq)) (ne : B.p ≠ q) (k : Kp q q H H') : HoAt K C H' B s x := by
  have st : ST K H H' := st_ins hq k
  have go : ∀ {a : Addr}, a ≠ q → ∀ o, H a = some o → H' a = some o := fun n o z => k _ _ n n z
  exact ⟨go ne _ h.ob, h.pa.st (go (h.pa.ne hq)) fun _ _ z => z.st st, h.bo.st (go (h.bo.ne hq)) fun _ _ z => z, h.pr.st (go (h.pr.ne hq)) fun _ _ z => z.st st, h.hs.st (go (h.hs.ne hq)) fun _ _ z => z.st st, h.gs.st (go (h.gs.ne hq)) fun _ _ z => z.st st⟩
end
theorem Kp.ins {H H' : Hp} {p : Addr} {o : HO} (k : Kp p p H H') : Kp p p H (upd H' p o) := Kp.put k (Or.inl rfl)
end NL
/-! fields, dicts walked and made -/
namespace NL
open PySem L2 Evl
theorem nosl {i : Expr} (h : ∀ ov iv, subscripted i false ov iv = operate [ov, iv] (getItem ov iv)) : NoSl i := h
theorem ST.dk {K : PySem.W.Frag} {H : Hp} {p : Addr} {ys : List (Key × V)} {o : HO} (h : H p = some (.dK ys)) : ST K H (upd H p o) := fun a xs s => by
  have no : ∀ {u : HO}, H a = some u → (∀ zs, u ≠ .dK zs) → upd H p o a = some u := fun {u} z n => by
    rw [upd_ne (fun y => by subst y; rw [h] at z; cases z; exact n _ rfl)]
    exact z
  rcases s with (z | ⟨ob, z⟩) | z
  · exact Or.inl (Or.inl (no z fun _ y => by cases y))
  · exact Or.inl (Or.inr ⟨ob, no z fun _ y => by cases y⟩)
  · exact Or.inr z
/-! ### a house asked -/
theorem kr_none {α : Type} {R : V → α → Prop} {n : Str} : ∀ {kvs : List (Key × V)} {xs : List (Str × α)}, Paired (Kr R) kvs xs → n ∉ xs.map (·.1) → valV kvs (.inr n) = none
  | _, _, .nil, _ => rfl
  | _, _, .cons (a := kv) (b := x) h t, hn => by
    rw [List.map_cons, List.mem_cons, not_or] at hn
    rw [valV_neg fun z => hn.1 (by rw [h.1] at z; exact (Sum.inr.inj z).symm)]
    exact kr_none t hn.2
theorem kr_new {α : Type} {R : V → α → Prop} {n : Str} {v : V} {d : α} {kvs : List (Key × V)} {xs : List (Str × α)} (h : Paired (Kr R) kvs xs) (hn : n ∉ xs.map (·.1)) (t : R v d) : Paired (Kr R) (putK kvs (.inr n) v) (xs ++ [(n, d)]) := by
  rw [putK_new _ (kr_none h hn)]
  exact paired_app h (.cons ⟨rfl, t⟩ .nil)
/-- a merge of unlike keys is their row -/
theorem merge_new {α : Type} {R : V → α → Prop} : ∀ {kvs acc : List (Key × V)} {xs ys : List (Str × α)}, Paired (Kr R) acc ys → Paired (Kr R) kvs xs → ((ys ++ xs).map (·.1)).Nodup → Paired (Kr R) (mergeK acc kvs) (ys ++ xs)
  | [], acc, xs, ys, ha, hk, nd => by
    cases hk
    rw [List.append_nil]
    exact ha
  | (k, v) :: kvs, acc, xs, ys, ha, hk, nd => by
    cases hk with
    | @cons _ x _ xs' h t =>
      obtain ⟨n, d⟩ := x
      have hk1 : k = .inr n := h.1
      subst hk1
      have hn : n ∉ ys.map (·.1) := fun z => by
        rw [List.map_append, List.nodup_append] at nd
        exact nd.2.2 n z n (by simp) rfl
      have step := kr_new ha hn h.2
      have e : ys ++ (n, d) :: xs' = (ys ++ [(n, d)]) ++ xs' := by simp
      rw [e] at nd ⊢
      exact merge_new (acc := putK acc (.inr n) v) step t nd
end NL
/-! each one in one place: hands and groups by their names, as functions -/
namespace NL
open PySem L2 Evl
abbrev HF := Str → Option How
abbrev GF := Str → Option (Option Str × List (Str × Bool))
def setF {α : Type} (f : Str → Option α) (n : Str) (v : α) : Str → Option α := fun m => if m = n then some v else f m
theorem setF_same {α : Type} {f : Str → Option α} {n : Str} {v : α} : setF f n v n = some v := if_pos rfl
theorem setF_ne {α : Type} {f : Str → Option α} {n m : Str} {v : α} (h : m ≠ n) : setF f n v m = f m := if_neg h
def up (s : Sta) (m : Str) : Option Str := match getN s.paths m with
  | some (g :: _) => some g
  | _ => none
def act (h : HF) (k : GF) (m : Str) : Prop := (∃ x, h m = some x ∧ x ≠ .out) ∨ ∃ o ps, k m = some (some o, ps)
structure JE (s : Sta) (h : HF) (k : GF) (e : Option Str) : Prop where
  dj : ∀ m x, h m = some x → k m = none
  ac : ∀ m g, up s m = some g → m ≠ g
  hold : ∀ g ps m, k g = some (some m, ps) → up s m = some g ∧ (e ≠ some m → act h k m ∧ h m ≠ some .loose)
  plc : ∀ g o ps m, k g = some (o, ps) → (m, true) ∈ ps → up s m = some g ∧ h m ≠ some .within ∧ (e ≠ some m → act h k m ∧ o ≠ some m)
  one : ∀ g o ps, k g = some (o, ps) → ((ps.filter (·.2)).map (·.1)).Nodup
  bare : ∀ g ps, k g = some (none, ps) → ps = []
  has : ∀ m g o ps, up s m = some g → act h k m → e ≠ some m → k g = some (o, ps) → o = some m ∨ (m, true) ∈ ps
section
variable {s : Sta} {h : HF} {k : GF} {e : Option Str} {m g : Str} {o : Option Str} {ps : List (Str × Bool)}
theorem act_h {n : Str} {y : How} (ne : m ≠ n) : act (setF h n y) k m ↔ act h k m := by unfold act; rw [setF_ne ne]
theorem act_hs {y : How} (hn : k m = none) : act (setF h m y) k m ↔ y ≠ .out := by
  unfold act
  rw [setF_same, hn]
  constructor
  · rintro (⟨x, z, q⟩ | ⟨o', ps', z⟩)
    · cases z
      exact q
    · cases z
  · intro z
    exact Or.inl ⟨y, rfl, z⟩
/-- a hand's how changes, it stays among those that stand or hold -/
theorem JE.how (j : JE s h k none) {x y : How} (hm : h m = some x) (hx : x ≠ .out) (hy : y ≠ .out) (h1 : y = .loose → ∀ g ps, k g ≠ some (some m, ps)) (h2 : y = .within → ∀ g o ps, k g = some (o, ps) → (m, true) ∉ ps) : JE s (setF h m y) k none := by
  have km := j.dj m x hm
  have am : act h k m := Or.inl ⟨x, hm, hx⟩
  have ac : ∀ n, act (setF h m y) k n ↔ act h k n := fun n => by
    by_cases z : n = m
    · subst z
      rw [act_hs km]
      exact ⟨fun _ => am, fun _ => hy⟩
    · exact act_h z
  refine ⟨fun n z hz => ?_, j.ac, fun g ps n hg => ?_, fun g o ps n hg hp => ?_, j.one, j.bare, fun n g o ps hu ha hn hg => j.has n g o ps hu ((ac n).mp ha) hn hg⟩
  · by_cases q : n = m
    · subst q
      exact km
    · rw [setF_ne q] at hz
      exact j.dj n z hz
  · obtain ⟨a, b⟩ := j.hold g ps n hg
    refine ⟨a, fun hn => ⟨(ac n).mpr (b hn).1, ?_⟩⟩
    by_cases q : n = m
    · subst q
      rw [setF_same]
      intro z
      exact h1 (Option.some.inj z) g ps hg
    · rw [setF_ne q]
      exact (b hn).2
  · obtain ⟨a, b, c⟩ := j.plc g o ps n hg hp
    refine ⟨a, ?_, fun hn => ⟨(ac n).mpr (c hn).1, (c hn).2⟩⟩
    by_cases q : n = m
    · subst q
      rw [setF_same]
      intro z
      exact h2 (Option.some.inj z) g o ps hg hp
    · rw [setF_ne q]
      exact b
end
end NL
/-! a step keeps each one in one place, and goes through -/
namespace NL
open PySem L2 Evl
def hv (hs : List (Str × HR)) : HF := fun m => (getN hs m).map HR.how
def gv (gs : List (Str × GR)) : GF := fun g => (getN gs g).map fun r => (r.holder, r.places)
/-! ### a lock given down -/
/-! ### the plan -/
def Locked (k : GF) : Str → List Str → Prop
  | _, [] => True
  | m, g :: p => (∃ ps, k g = some (some m, ps)) ∧ Locked k g p
theorem locked_set {k : GF} {g : Str} {v : Option Str × List (Str × Bool)} : ∀ {p : List Str} {m : Str}, g ∉ p → (Locked (setF k g v) m p ↔ Locked k m p)
  | [], m, _ => Iff.rfl
  | a :: p, m, h => by
    rw [List.mem_cons, not_or] at h
    unfold Locked
    rw [setF_ne (Ne.symm h.1), locked_set h.2]
theorem locked_some {k : GF} : ∀ {p : List Str} {m g : Str}, Locked k m p → g ∈ p → ∃ x ps, k g = some (some x, ps) ∧ x ∈ m :: p
  | a :: p, m, g, h, hg => by
    obtain ⟨⟨ps, h1⟩, h2⟩ := h
    rcases List.mem_cons.mp hg with z | z
    · subst z
      exact ⟨m, ps, h1, List.mem_cons_self⟩
    · obtain ⟨x, qs, e, hx⟩ := locked_some h2 z
      exact ⟨x, qs, e, List.mem_cons_of_mem _ hx⟩
def LK (s : Sta) (w : Str) (h : HF) (k : GF) : Prop := ((∃ ps, k w = some (none, ps)) ∧ ∀ m, h m ≠ some .within) ∨ ∃ m p, h m = some .within ∧ getN s.paths m = some p ∧ Locked k m p ∧ ∀ n, h n = some .within → n = m
structure Core (s : Sta) (w : Str) (h : HF) (k : GF) : Prop where
  je : JE s h k none
  lk : LK s w h k
def RowI (s : Sta) (hs : List (Str × HR)) : Prop := ∀ n r rows, getN hs n = some r → getN s.progs n = some rows → 0 ≤ r.row ∧ r.row ≤ (rows.length : Int) ∧ (r.how = .loose ∨ r.how = .waits → r.row < (rows.length : Int)) ∧ ∀ l, r.looks = some l → 0 ≤ l
theorem RowI.set {s : Sta} {hs : List (Str × HR)} {n : Str} {r r' : HR} (h : RowI s hs) (hn : getN hs n = some r) (hr : ∀ rows, getN s.progs n = some rows → 0 ≤ r'.row ∧ r'.row ≤ (rows.length : Int) ∧ (r'.how = .loose ∨ r'.how = .waits → r'.row < (rows.length : Int)) ∧ ∀ l, r'.looks = some l → 0 ≤ l) : RowI s (setN hs n r') := by
  intro m x rows hm hp
  by_cases e : m = n
  · subst e
    rw [getN_same hn] at hm
    cases hm
    exact hr rows hp
  · rw [getN_other e] at hm
    exact h m x rows hm hp
end NL
/-! a step keeps each one in one place, and goes through: standing -/
namespace NL
open PySem L2 Evl
section
variable {s : Sta} {hk gk : List Str} {w : Str} {h h' : HF} {k k' : GF}
theorem LK.hold {g : Str} {ps : List (Str × Bool)} {v : Option Str × List (Str × Bool)} (x : LK s w h k) (hg : k g = some (none, ps)) (ne : g ≠ w) : LK s w h (setF k g v) := by
  rcases x with ⟨⟨ps, a⟩, b⟩ | ⟨m, p, a, b, c, d⟩
  · exact Or.inl ⟨⟨ps, by rw [setF_ne (Ne.symm ne)]; exact a⟩, b⟩
  · refine Or.inr ⟨m, p, a, b, (locked_set fun z => ?_).mpr c, d⟩
    obtain ⟨y, qs, e, _⟩ := locked_some c z
    rw [hg] at e
    cases e
end
structure WF (s : Sta) (hk gk : List Str) (w : Str) (x : SH) (N : Nat) : Prop where
  ks : x.hs.map (·.1) = hk
  gs : x.gs.map (·.1) = gk
  co : Core s w (hv x.hs) (gv x.gs)
  ri : RowI s x.hs
  ln : ∀ g r, getN x.gs g = some r → r.places.length ≤ N
end NL
/-! a step keeps each one in one place, and goes through: letting go, leaving -/
namespace NL
open PySem L2 Evl
end NL
/-! a step keeps each one in one place, and goes through -/
namespace NL
open PySem L2 Evl
section
variable {s : Sta} {hk gk : List Str} {w : Str}
theorem WF.mono {x : SH} {N M : Nat} (f : WF s hk gk w x N) (h : N ≤ M) : WF s hk gk w x M := ⟨f.ks, f.gs, f.co, f.ri, fun g r hg => Nat.le_trans (f.ln g r hg) h⟩
variable {x : SH} {N : Nat} {h : Str} {r : HR}
end
end NL
/-! a new house: what its plan tells -/
namespace NL
open PySem L2 Evl
theorem getN_mem {α : Type} : ∀ {xs : List (Str × α)} {n : Str} {v : α}, (xs.map (·.1)).Nodup → (n, v) ∈ xs → getN xs n = some v
  | [], _, _, _, h => by cases h
  | (k, u) :: r, n, v, nd, h => by
    rw [List.map_cons, List.nodup_cons] at nd
    rcases List.mem_cons.mp h with z | z
    · cases z
      simp [getN]
    · have ne : k ≠ n := fun e => nd.1 (by rw [show (k, u).1 = n from e]; exact List.mem_map.mpr ⟨(n, v), z, rfl⟩)
      simp only [getN, if_neg ne]
      exact getN_mem nd.2 z
theorem mem_getN {α : Type} : ∀ {xs : List (Str × α)} {n : Str} {v : α}, getN xs n = some v → (n, v) ∈ xs
  | [], _, _, h => by cases h
  | (k, u) :: r, n, v, h => by
    by_cases e : k = n
    · simp only [getN, if_pos e] at h
      cases h
      rw [e]
      exact List.mem_cons_self
    · simp only [getN, if_neg e] at h
      exact List.mem_cons_of_mem _ (mem_getN h)
def Tr.nm : Tr → Str
  | .hand n => n
  | .grp n _ _ => n
end NL
/-! names and numbers of a state stay small -/
namespace NL
open PySem L2 Evl
structure HZ (L : Nat) (r : HR) : Prop where
  la : -1 ≤ r.last ∧ r.last ≤ 1
  lo : ∀ l, r.looks = some l → l ≤ (L : Int)
structure GZ (A : Str → Prop) (N : Nat) (g : GR) : Prop where
  co : 0 ≤ g.count ∧ g.count ≤ (N : Int)
  ho : ∀ m, g.holder = some m → A m
  pl : ∀ p ∈ g.places, A p.1
def DZ (A : Str → Prop) (L N : Nat) (hs : List (Str × HR)) (gs : List (Str × GR)) : Prop := (∀ h r, getN hs h = some r → HZ L r) ∧ ∀ g r, getN gs g = some r → GZ A N r
section
variable {A : Str → Prop} {L N : Nat} {d : DS}
theorem DZ.mono {hs : List (Str × HR)} {gs : List (Str × GR)} {M : Nat} (h : DZ A L N hs gs) (hm : N ≤ M) : DZ A L M hs gs := ⟨h.1, fun g r hg => ⟨⟨(h.2 g r hg).co.1, by have := (h.2 g r hg).co.2; omega⟩, (h.2 g r hg).ho, (h.2 g r hg).pl⟩⟩
end
end NL
/-! == of two dicts whose values are data -/
namespace NL
open PySem L2 Evl
/-! ### houses' rows as data -/
section
variable {K : PySem.W.Frag} {H : Hp}
def optD : Option Int → PyData
  | none => .none
  | some i => .int i
def optDS : Option Str → PyData
  | none => .none
  | some m => .str m
def hrD (r : HR) : PyData := .tuple [.int r.row, .int r.last, .str r.how.str, optD r.looks]
def plD (p : Str × Bool) : PyData := .tuple [.str p.1, .bool p.2]
def grD (g : GR) : PyData := .tuple [optDS g.holder, .int g.count, .tuple (g.places.map plD)]
theorem optI_dp (o : Option Int) : Dp K H (optI o) (optD o) := by
  cases o
  · exact .non
  · exact .int _
theorem optS_dp (o : Option Str) : Dp K H (optS o) (optDS o) := by
  cases o
  · exact .non
  · exact .str _
theorem HV.dp {v : V} {r : HR} (h : HV K H v r) : Dp K H v (hrD r) := by
  obtain ⟨a, rfl, st⟩ := h
  exact .tup st (.cons (.int _) (.cons (.int _) (.cons (.str _) (.cons (optI_dp _) .nil))))
theorem pls_dp : ∀ {xs : List V} {ps : List (Str × Bool)}, Paired (PlV K H) xs ps → DpAll K H xs (ps.map plD)
  | _, _, .nil => .nil
  | _, _, .cons h t => by
    obtain ⟨a, rfl, st⟩ := h
    exact .cons (.tup st (.cons (.str _) (.cons (.bl _) .nil))) (pls_dp t)
theorem GV.dp {v : V} {g : GR} (h : GV K H v g) : Dp K H v (grD g) := by
  obtain ⟨a, u, rfl, st, b, xs, rfl, st2, pd⟩ := h
  exact .tup st (.cons (optS_dp _) (.cons (.int _) (.cons (.tup st2 (pls_dp pd)) .nil)))
end
end NL
/-! == and != of two objects of one class, its own __eq__ -/
namespace NL
open PySem L2 Evl PySem.Spec PyProof.Rows
end NL
/-! str(x), the class has __str__ -/
namespace NL
open PySem L2 Evl PySem.Spec PyProof.Rows
end NL
/-! methods of lists within a comprehension; a dict brought up to date -/
namespace NL
open PySem L2 Evl PySem.Spec PyProof.Rows
section
variable {X : Cx}
def rUpdD : V → List V → Hp → VK → Prop := fun x xs H Q => ∃ (a b : Addr) (kvs more : List (Key × V)), x = .ref a ∧ xs = [.ref b] ∧ H a = some (.dK kvs) ∧ H b = some (.dK more) ∧ a ≠ b ∧ kvs.length + more.length ≤ sizeLine ∧ Q .non (upd H a (.dK (mergeK kvs more)))
theorem mt_updD : MtR X "dict.update" rUpdD := by
  intro pins s σ H x xs v us Q I rx rxs h
  obtain ⟨a, b, kvs, more, rfl, rfl, ha, hb, ne, hsz, q⟩ := h
  cases rx
  obtain ⟨u, rfl, ru⟩ := vals1 rxs
  cases ru
  obtain ⟨z, hd, vs, rel, dd⟩ := dk_of I.hok ha
  obtain ⟨z2, hd2, vs2, rel2, dd2⟩ := dk_of I.hok hb
  refine call_meetsIn PySem.F.slot_dict_update dd.typeIs PySem.F.entry_dict_update (PySem.F.args_dict_update_2 _ _) (meets_dict_update (mixKind X.prog X.w) a b ne hd2) ⟨vs, vs2, dd, dd2, by rw [← rel.length, ← rel2.length]; exact hsz, fun h' dd' _ hs => ⟨.non, _, ?_, rfl, q⟩⟩
  have he : ∃ q, h'.get? a = some q := let ⟨q, _, _, hq, _⟩ := dd'; ⟨q, hq⟩
  exact d_write I (by rw [ha]; exact True.intro) hs he (dk_new (Nat.le_trans (length_mergeK more kvs) hsz) hd (rel2.merge rel) dd')
end
/-! dict(l), l a list of pairs -/
end NL
/-! defs that refuse at times: what is promised where they don't serves there, too -/
namespace NL
open PySem L2 Evl
section
variable {P : Program} {w : World} {K : PySem.W.Frag} {mg : Str → Option Value} {base : Heap} {k : Nat} {f : Addr} {fd : FuncData} {ps : List Str} {sp sp' : Sp}
/-- where none is let out, any may be awaited -/
theorem FnOk.wk (F : FnOk P w K mg base L2.CX0 k f fd ps sp) : FnOk P w K mg base (L2.CX P w) k f fd ps sp :=
  ⟨F.len, fun A outer s H args us vs Q E hr he hb hv hs => codeAny_mono (F.run A outer s H args us vs Q E hr he hb hv hs) fun r s' h => by
    cases r with
    | error e => exact False.elim h
    | ok fl => cases fl <;> exact h⟩
def Sp.or (sp sp' : Sp) : Sp := fun vs H Q E => sp vs H Q E ∨ sp' vs H Q E
theorem FnOk.or {CX : CXT} (F : FnOk P w K mg base CX k f fd ps sp) (G : FnOk P w K mg base CX k f fd ps sp') : FnOk P w K mg base CX k f fd ps (Sp.or sp sp') :=
  ⟨fun vs H Q E h => h.elim (F.len vs H Q E) (G.len vs H Q E), fun A outer s H args us vs Q E hr he hb hv hs => hs.elim (F.run A outer s H args us vs Q E hr he hb hv) (G.run A outer s H args us vs Q E hr he hb hv)⟩
end
end NL
/-! a dict is no text: x not in a list of texts, x a dict -/
namespace NL
open PySem L2 Evl PySem.Spec PyProof.Rows
section
variable {A : Around} {s : Shared}
theorem strEq_dict {z : Str} {t : Tok} {b : Addr} {o : Obj} {es : Array DictEntry} {n : Nat} {prog : Program} {w : World} {E : Value → Shared → Prop} {Q : Fin → Shared → Prop} (hb : s.heap.get? b = some o) (hd : o.data = .dict es n) (q : Q (.done (.ret .notImplemented)) s) : wpAny (model prog w) A (Builtin.«str.__eq__» ⟨[.str z t, .ref b], []⟩) Q E s := by
  unfold Builtin.«str.__eq__» Builtin.Str.strCompare Builtin.Str.strSlot asStr?
  repeat wp_step
  rw [hd]
  repeat (first | exact q | wp_step)
theorem dictEq_str {z : Str} {t : Tok} {b : Addr} {o : Obj} {es : Array DictEntry} {n : Nat} {prog : Program} {w : World} {E : Value → Shared → Prop} {Q : Fin → Shared → Prop} (hb : s.heap.get? b = some o) (hc : o.cls = .type "dict") (hd : o.data = .dict es n) (q : Q (.done (.ret .notImplemented)) s) : wpAny (model prog w) A (Builtin.«dict.__eq__» ⟨[.ref b, .str z t], []⟩) Q E s := by
  show wpAny (model prog w) A (Builtin.Dict.dictSlotArgs "__eq__" ⟨[.ref b, .str z t], []⟩ >>= fun x => (match x with
    | (self, other) => do
      let __do_lift ← PySem.isInstance other (Value.type "dict")
      if (!__do_lift) = true then do
          rule (toString "dict." ++ toString "__eq__" ++ toString ".not-a-dict")
          ret Value.notImplemented
        else do
          let __do_lift ← Builtin.Dict.addrOf self
          let __do_lift_1 ← Builtin.Dict.addrOf other
          let __do_lift ← Builtin.Dict.samePairs (toString "dict." ++ toString "__eq__") __do_lift __do_lift_1
          ret (Value.bool (__do_lift == true)))) Q E s
  unfold Builtin.Dict.dictSlotArgs Builtin.Dict.notOrdered
  repeat (first | exact q | wp_step)
  rw [PySem.F.sub_str_dict]
  repeat (first | exact q | wp_step)
theorem rcAt_str_dict {z : Str} {t : Tok} {b : Addr} {o : Obj} {es : Array DictEntry} {n : Nat} (hu : A.units < cLine) (hb : s.heap.get? b = some o) (hc : o.cls = .type "dict") (hd : o.data = .dict es n) : SeqAt.RcAt A s (.str z t) (.ref b) false := by
  intro prog w E Q q
  have ty : s.TypeIs (.ref b) "dict" := ⟨o, hb, hc⟩
  have c1 : ∀ {Q : Value → Shared → Prop}, Q .notImplemented s → wpAny (model prog w) A (call (.builtin "str.__eq__") [.str z t, .ref b]) Q E s := fun {Q} h => by
    refine call_meets PySem.F.slot_str_eq (typeIs_str _ _ _) PySem.F.entry_str_eq (PySem.F.args_str_eq_2 _ _) (S := fun _ R s' => s' = s ∧ R (.ok (.ret .notImplemented)) s') ?_ ⟨rfl, h⟩
    rintro prog w A R s' ⟨rfl, hR⟩
    exact strEq_dict hb hd hR
  have c2 : ∀ {Q : Value → Shared → Prop}, Q .notImplemented s → wpAny (model prog w) A (call (.builtin "dict.__eq__") [.ref b, .str z t]) Q E s := fun {Q} h => by
    refine call_meets PySem.F.slot_dict_eq ty PySem.F.entry_dict_eq (PySem.F.args_dict_eq_2 _ _) (S := fun _ R s' => s' = s ∧ R (.ok (.ret .notImplemented)) s') ?_ ⟨rfl, h⟩
    rintro prog w A R s' ⟨rfl, hR⟩
    exact dictEq_str hb hc hd hR
  unfold richCompare
  have e0 : oneThing? .Eq (.str z t) (.ref b) = none := by rfl
  rw [e0]
  refine wpAny_holding (wpAny_bind (wpAny_cRoomFor hu ?_))
  rw [cmpInfo_Eq]
  dsimp only
  have ts : typeOf (.str z t) = pure (Value.type "str") := rfl
  rw [ts]
  refine wpAny_bind (wpAny_pure (wpAny_bind ?_))
  have ht : ∀ {Q : Value → Shared → Prop}, Q (.type "dict") s → wpAny (model prog w) A (typeOf (.ref b)) Q E s := fun {Q} h => by
    rw [← hc] at h
    unfold typeOf
    repeat (first | exact h | wp_step)
  refine ht ?_
  rw [show (Value.type "str" != Value.type "dict") = true from by decide]
  simp only [if_true]
  rw [PySem.F.sub_dict_str]
  have t1 : ∀ {Q : Option Value → Shared → Prop}, Q none s → wpAny (model prog w) A (tryCompare (.str z t) "__eq__" (.ref b)) Q E s := fun h => wpAny_tryCompare_declines (typeIs_str _ _ _) PySem.F.slot_str_eq (c1 ⟨rfl, h⟩)
  have t2 : ∀ {Q : Option Value → Shared → Prop}, Q none s → wpAny (model prog w) A (tryCompare (.ref b) "__eq__" (.str z t)) Q E s := fun h => wpAny_tryCompare_declines ty PySem.F.slot_dict_eq (c2 ⟨rfl, h⟩)
  refine wpAny_bind (wpAny_pure ?_)
  simp only [Bool.false_eq_true, if_false]
  refine wpAny_bind (t1 ?_)
  dsimp only
  simp only [Bool.not_false, if_true]
  refine wpAny_bind (t2 ?_)
  dsimp only
  repeat (first | exact q | wp_step)
theorem eqAt_str_dict {z : Str} {t : Tok} {b : Addr} {o : Obj} {es : Array DictEntry} {n : Nat} (hu : A.units < cLine) (hb : s.heap.get? b = some o) (hc : o.cls = .type "dict") (hd : o.data = .dict es n) : SeqAt.EqAt A s (.str z t) (.ref b) false := by
  intro prog w E Q q
  unfold eqBool
  refine wpAny_holding ?_
  rw [if_neg (by intro h; cases h)]
  refine wpAny_bind ?_
  refine rcAt_str_dict hu hb hc hd prog w E _ ?_
  repeat (first | exact q | wp_step)
end
/-- x not in a list of texts, whatever data x is -/
def rNotInT (K : PySem.W.Frag) : R2 := fun x y H Q => ∃ (p : Addr) (xs : List Str), y = .ref p ∧ SqL K H p (xs.map V.str) ∧ (xs.all fun z => PyData.strOk z) = true ∧ ((∃ d, Dp K H x d ∧ SeqAt.shaped d = true ∧ Q (.bl (!xs.any fun z => PyData.eqv (.str z) d)) H) ∨ ∃ a ks, x = .ref a ∧ H a = some (.dK ks) ∧ Q (.bl true) H)
theorem notInT {X : Cx} {K : PySem.W.Frag} (hK : X.K = K) (hu : X.A.units + 66 < cLine) : OpR X (compareOp .NotIn) (rNotInT K) := by
  subst hK
  intro pins s σ H x y v u Q I rx ry h
  obtain ⟨p, xs, rfl, hs, hx, h⟩ := h
  cases (show u = Value.ref p from ry)
  obtain ⟨its, rv, hl, hlen⟩ := I.list hs
  have txt : ∀ (xs : List Str) (its : List Value), Vals (xs.map V.str) its → ∀ y ∈ its, ∃ z ∈ xs, ∃ t, y = .str z t := by
    intro xs
    induction xs with
    | nil =>
      intro its rv y hy
      cases rv
      cases hy
    | cons z xs ih =>
      intro its rv y hy
      cases rv with
      | cons a t =>
        rcases List.mem_cons.mp hy with rfl | hy
        · obtain ⟨t', rfl⟩ := a
          exact ⟨z, List.mem_cons_self, t', rfl⟩
        · obtain ⟨z', h1, h2⟩ := ih _ t y hy
          exact ⟨z', List.mem_cons_of_mem _ h1, h2⟩
  have anyE : ∀ (f : Str → Bool) (g : Value → Bool), (∀ z t, g (.str z t) = f z) → ∀ (xs : List Str) (its : List Value), Vals (xs.map V.str) its → its.any g = xs.any f := by
    intro f g hg xs
    induction xs with
    | nil =>
      intro its rv
      cases rv
      rfl
    | cons z xs ih =>
      intro its rv
      cases rv with
      | cons a t =>
        obtain ⟨t', rfl⟩ := a
        rw [List.any_cons, List.any_cons, hg, ih _ t]
  rcases h with ⟨d, hd, sd, q⟩ | ⟨a, ks, rfl, ha, q⟩
  · obtain ⟨as, r1⟩ := Dp.reads I d x v hd rx
    let g : Value → Bool := fun y => match y with | .str z _ => PyData.eqv (.str z) d | _ => false
    refine SeqAt.notIn_listAt (items := its.toArray) g hl.isList (fun y hy => ?_) ?_
    · obtain ⟨z, hz, t, rfl⟩ := txt _ _ rv y (by simpa using hy)
      refine SeqAt.eqAt_reads (.str z) d _ s _ _ _ _ (.str z t) r1 ?_ (SeqAt.canLay_of_shaped sd) ?_
      · have := List.all_eq_true.mp hx z hz
        simp only [PyData.canLay0]
        exact this
      · have : min (PyData.str z).depth d.depth = 0 := by simp [PyData.depth]
        rw [this]
        show X.A.units + 1 + 0 < cLine
        omega
    · rw [List.any_toArray, anyE (fun z => PyData.eqv (.str z) d) g (fun _ _ => rfl) _ _ rv]
      exact ⟨.bl _, H, I, rfl, q⟩
  · cases (show v = Value.ref a from rx)
    obtain ⟨_, ya, va, ra, da⟩ := (show ObjOk X.prog X.w H s.heap a (.dK ks) from I.hok a _ ha)
    refine SeqAt.notIn_listAt (items := its.toArray) (fun _ => false) hl.isList (fun y hy => ?_) ?_
    · obtain ⟨z, hz, t, rfl⟩ := txt _ _ rv y (by simpa using hy)
      obtain ⟨o, es, ep, h1, h2, h3, _⟩ := da
      exact eqAt_str_dict (by show X.A.units + 1 < cLine; omega) h1 h2.1 h3
    · rw [List.any_toArray, anyE (fun z => false) (fun _ => false) (fun _ _ => rfl) _ _ rv]
      have : (xs.any fun _ => false) = false := by simp
      rw [this]
      exact ⟨.bl _, H, I, rfl, q⟩
end NL
namespace K53
open PySem L2 Evl NL
def top (i : Nat) : Stmt := PySem.Challenge.pw_nearlocks_k53_turns_of_members.main.body.getD i (.Pass ⟨0, 0, 0, 0⟩)
abbrev s_is_known : Stmt := top 16
abbrev s_hands_of : Stmt := top 18
abbrev s_all_in : Stmt := top 19
abbrev s_all_from : Stmt := top 20
abbrev s_turn_of : Stmt := top 22
abbrev s_turns_in : Stmt := top 23
abbrev s_member_turn : Stmt := top 24
abbrev s__law_hand : Stmt := top 26
abbrev s__law_take : Stmt := top 27
abbrev s__law_pick : Stmt := top 28
abbrev s__law_name : Stmt := top 29
abbrev s__law_lot : Stmt := top 30
abbrev s__law_upper : Stmt := top 31
abbrev s__law_plan : Stmt := top 32
abbrev s__law_hands : Stmt := top 33
abbrev s__law_groups : Stmt := top 34
abbrev s__law_turn : Stmt := top 35
abbrev s__law_great : Stmt := top 36
abbrev s__law_refused : Stmt := top 37
abbrev s_law : Stmt := top 38
abbrev s_NoName___init__ : Stmt := inClass (top 2) 0
abbrev N_is_known : List Str := ["thing", "names"]
theorem sc_is_known : FnScope N_is_known ["thing", "names"] (defScope s_is_known) := ⟨rfl, rfl, rfl, by decide +kernel, rfl, by decide +kernel, by decide +kernel⟩
abbrev N_hands_of : List Str := ["plan", "name", "bound", "path"]
theorem sc_hands_of : FnScope N_hands_of ["plan"] (defScope s_hands_of) := ⟨rfl, rfl, rfl, by decide +kernel, rfl, by decide +kernel, by decide +kernel⟩
abbrev N_all_in : List Str := ["plan"]
theorem sc_all_in : FnScope N_all_in ["plan"] (defScope s_all_in) := ⟨rfl, rfl, rfl, by decide +kernel, rfl, by decide +kernel, by decide +kernel⟩
abbrev N_all_from : List Str := ["group", "around", "name", "bound", "members", "rows", "inside", "member"]
theorem sc_all_from : FnScope N_all_from ["group", "around"] (defScope s_all_from) := ⟨rfl, rfl, rfl, by decide +kernel, rfl, by decide +kernel, by decide +kernel⟩
abbrev N_turn_of : List Str := ["plan", "name", "turns"]
theorem sc_turn_of : FnScope N_turn_of ["plan", "name"] (defScope s_turn_of) := ⟨rfl, rfl, rfl, by decide +kernel, rfl, by decide +kernel, by decide +kernel⟩
abbrev N_turns_in : List Str := ["group", "turns", "member"]
theorem sc_turns_in : FnScope N_turns_in ["group"] (defScope s_turns_in) := ⟨rfl, rfl, rfl, by decide +kernel, rfl, by decide +kernel, by decide +kernel⟩
abbrev N_member_turn : List Str := ["member", "name", "bound", "members", "one"]
theorem sc_member_turn : FnScope N_member_turn ["member"] (defScope s_member_turn) := ⟨rfl, rfl, rfl, by decide +kernel, rfl, by decide +kernel, by decide +kernel⟩
abbrev N__law_hand : List Str := ["_law_script", "_law_k", "_law_cell", "_law_mixed"]
theorem sc__law_hand : FnScope N__law_hand ["_law_script", "_law_k"] (defScope s__law_hand) := ⟨rfl, rfl, rfl, by decide +kernel, rfl, by decide +kernel, by decide +kernel⟩
abbrev N__law_take : List Str := ["_law_hand_here", "_law_many", "_law_mixed", "_law_digit"]
theorem sc__law_take : FnScope N__law_take ["_law_hand_here", "_law_many"] (defScope s__law_take) := ⟨rfl, rfl, rfl, by decide +kernel, rfl, by decide +kernel, by decide +kernel⟩
abbrev N__law_pick : List Str := ["_law_hand_here", "_law_some"]
theorem sc__law_pick : FnScope N__law_pick ["_law_hand_here", "_law_some"] (defScope s__law_pick) := ⟨rfl, rfl, rfl, by decide +kernel, rfl, by decide +kernel, by decide +kernel⟩
abbrev N__law_name : List Str := ["_law_box", "_law_letters"]
theorem sc__law_name : FnScope N__law_name ["_law_box"] (defScope s__law_name) := ⟨rfl, rfl, rfl, by decide +kernel, rfl, by decide +kernel, by decide +kernel⟩
abbrev N__law_lot : List Str := ["_law_box", "_law_many", "_law_bound", "_law_name_here", "_law_k"]
theorem sc__law_lot : FnScope N__law_lot ["_law_box", "_law_many", "_law_bound"] (defScope s__law_lot) := ⟨rfl, rfl, rfl, by decide +kernel, rfl, by decide +kernel, by decide +kernel⟩
abbrev N__law_upper : List Str := ["_law_hand_here", "_law_box", "_law_even", "_law_name_here", "_law_bound", "_law_inner", "_law_some", "_law_k"]
theorem sc__law_upper : FnScope N__law_upper ["_law_hand_here", "_law_box", "_law_even"] (defScope s__law_upper) := ⟨rfl, rfl, rfl, by decide +kernel, rfl, by decide +kernel, by decide +kernel⟩
abbrev N__law_plan : List Str := ["_law_hand_here", "_law_even", "_law_box", "_law_way", "_law_whole", "_law_some", "_law_k"]
theorem sc__law_plan : FnScope N__law_plan ["_law_hand_here", "_law_even"] (defScope s__law_plan) := ⟨rfl, rfl, rfl, by decide +kernel, rfl, by decide +kernel, by decide +kernel⟩
abbrev N__law_hands : List Str := ["_law_plan_here", "_law_found", "_law_member"]
theorem sc__law_hands : FnScope N__law_hands ["_law_plan_here"] (defScope s__law_hands) := ⟨rfl, rfl, rfl, by decide +kernel, rfl, by decide +kernel, by decide +kernel⟩
abbrev N__law_groups : List Str := ["_law_plan_here", "_law_found", "_law_member"]
theorem sc__law_groups : FnScope N__law_groups ["_law_plan_here"] (defScope s__law_groups) := ⟨rfl, rfl, rfl, by decide +kernel, rfl, by decide +kernel, by decide +kernel⟩
abbrev N__law_turn : List Str := ["_law_member", "_law_inner"]
theorem sc__law_turn : FnScope N__law_turn ["_law_member"] (defScope s__law_turn) := ⟨rfl, rfl, rfl, by decide +kernel, rfl, by decide +kernel, by decide +kernel⟩
abbrev N__law_great : List Str := ["_law_hand_here", "_law_plan_here", "_law_bound", "_law_some", "_law_member"]
theorem sc__law_great : FnScope N__law_great ["_law_hand_here", "_law_plan_here"] (defScope s__law_great) := ⟨rfl, rfl, rfl, by decide +kernel, rfl, by decide +kernel, by decide +kernel⟩
abbrev N__law_refused : List Str := ["_law_plan_here", "_law_thing", "_law_caught", "_law_others", "e"]
theorem sc__law_refused : FnScope N__law_refused ["_law_plan_here", "_law_thing"] (defScope s__law_refused) := ⟨rfl, rfl, rfl, by decide +kernel, rfl, by decide +kernel, by decide +kernel⟩
abbrev N_law : List Str := ["_law_script", "_law_k", "_law_hand_here", "_law_even", "_law_plan_here", "_law_kept", "_law_inner", "_law_member", "_law_some", "_law_name_here", "_law_thing", "_law_group"]
theorem sc_law : FnScope N_law ["_law_script"] (defScope s_law) := ⟨rfl, rfl, rfl, by decide +kernel, rfl, by decide +kernel, by decide +kernel⟩
abbrev N_NoName___init__ : List Str := ["self", "name"]
theorem sc_NoName___init__ : FnScope N_NoName___init__ ["self", "name"] (defScope s_NoName___init__) := ⟨rfl, rfl, rfl, by decide +kernel, rfl, by decide +kernel, by decide +kernel⟩
/-! ### the facts of the top -/
set_option genInjectivity false in
set_option genSizeOfSpec false in
structure Tp (w : World) (K : PySem.W.Frag) (mg : Str → Option Value) where
  f_is_known : Addr
  d_is_known : FuncData
  F_is_known : Fun K "is_known" "is_known" s_is_known f_is_known d_is_known
  m_is_known : mg "is_known" = some (.ref f_is_known)
  f_hands_of : Addr
  d_hands_of : FuncData
  F_hands_of : Fun K "hands_of" "hands_of" s_hands_of f_hands_of d_hands_of
  m_hands_of : mg "hands_of" = some (.ref f_hands_of)
  f_all_in : Addr
  d_all_in : FuncData
  F_all_in : Fun K "all_in" "all_in" s_all_in f_all_in d_all_in
  m_all_in : mg "all_in" = some (.ref f_all_in)
  f_all_from : Addr
  d_all_from : FuncData
  F_all_from : Fun K "all_from" "all_from" s_all_from f_all_from d_all_from
  m_all_from : mg "all_from" = some (.ref f_all_from)
  f_turn_of : Addr
  d_turn_of : FuncData
  F_turn_of : Fun K "turn_of" "turn_of" s_turn_of f_turn_of d_turn_of
  m_turn_of : mg "turn_of" = some (.ref f_turn_of)
  f_turns_in : Addr
  d_turns_in : FuncData
  F_turns_in : Fun K "turns_in" "turns_in" s_turns_in f_turns_in d_turns_in
  m_turns_in : mg "turns_in" = some (.ref f_turns_in)
  f_member_turn : Addr
  d_member_turn : FuncData
  F_member_turn : Fun K "member_turn" "member_turn" s_member_turn f_member_turn d_member_turn
  m_member_turn : mg "member_turn" = some (.ref f_member_turn)
  f__law_hand : Addr
  d__law_hand : FuncData
  F__law_hand : Fun K "_law_hand" "_law_hand" s__law_hand f__law_hand d__law_hand
  m__law_hand : mg "_law_hand" = some (.ref f__law_hand)
  f__law_take : Addr
  d__law_take : FuncData
  F__law_take : Fun K "_law_take" "_law_take" s__law_take f__law_take d__law_take
  m__law_take : mg "_law_take" = some (.ref f__law_take)
  f__law_pick : Addr
  d__law_pick : FuncData
  F__law_pick : Fun K "_law_pick" "_law_pick" s__law_pick f__law_pick d__law_pick
  m__law_pick : mg "_law_pick" = some (.ref f__law_pick)
  f__law_name : Addr
  d__law_name : FuncData
  F__law_name : Fun K "_law_name" "_law_name" s__law_name f__law_name d__law_name
  m__law_name : mg "_law_name" = some (.ref f__law_name)
  f__law_lot : Addr
  d__law_lot : FuncData
  F__law_lot : Fun K "_law_lot" "_law_lot" s__law_lot f__law_lot d__law_lot
  m__law_lot : mg "_law_lot" = some (.ref f__law_lot)
  f__law_upper : Addr
  d__law_upper : FuncData
  F__law_upper : Fun K "_law_upper" "_law_upper" s__law_upper f__law_upper d__law_upper
  m__law_upper : mg "_law_upper" = some (.ref f__law_upper)
  f__law_plan : Addr
  d__law_plan : FuncData
  F__law_plan : Fun K "_law_plan" "_law_plan" s__law_plan f__law_plan d__law_plan
  m__law_plan : mg "_law_plan" = some (.ref f__law_plan)
  f__law_hands : Addr
  d__law_hands : FuncData
  F__law_hands : Fun K "_law_hands" "_law_hands" s__law_hands f__law_hands d__law_hands
  m__law_hands : mg "_law_hands" = some (.ref f__law_hands)
  f__law_groups : Addr
  d__law_groups : FuncData
  F__law_groups : Fun K "_law_groups" "_law_groups" s__law_groups f__law_groups d__law_groups
  m__law_groups : mg "_law_groups" = some (.ref f__law_groups)
  f__law_turn : Addr
  d__law_turn : FuncData
  F__law_turn : Fun K "_law_turn" "_law_turn" s__law_turn f__law_turn d__law_turn
  m__law_turn : mg "_law_turn" = some (.ref f__law_turn)
  f__law_great : Addr
  d__law_great : FuncData
  F__law_great : Fun K "_law_great" "_law_great" s__law_great f__law_great d__law_great
  m__law_great : mg "_law_great" = some (.ref f__law_great)
  f__law_refused : Addr
  d__law_refused : FuncData
  F__law_refused : Fun K "_law_refused" "_law_refused" s__law_refused f__law_refused d__law_refused
  m__law_refused : mg "_law_refused" = some (.ref f__law_refused)
  f_law : Addr
  d_law : FuncData
  F_law : Fun K "law" "law" s_law f_law d_law
  m_law : mg "law" = some (.ref f_law)
  f_NoName___init__ : Addr
  d_NoName___init__ : FuncData
  F_NoName___init__ : Fun K "__init__" "NoName.__init__" s_NoName___init__ f_NoName___init__ d_NoName___init__
  C_LockError : Addr
  xc_LockError : XcC K C_LockError
  mc_LockError : mg "LockError" = some (.ref C_LockError)
  xp_LockError : PySem.W.excIn K C_LockError [.type "ValueError", .type "Exception", .type "BaseException", .type "object"] "ValueError.__new__" = true
  C_NoName : Addr
  xc_NoName : XcC K C_NoName
  mc_NoName : mg "NoName" = some (.ref C_NoName)
  ox_NoName : OexC K C_NoName
  ii_NoName : PySem.W.findIn K (.ref C_NoName) "__init__" = some (some (.ref f_NoName___init__))
  ti_NoName : PySem.W.typeIn K (.ref f_NoName___init__) = some (.type "function")
  na_NoName_name : PySem.W.findIn K (.ref C_NoName) "name" = some none
  C_NoText : Addr
  xc_NoText : XcC K C_NoText
  mc_NoText : mg "NoText" = some (.ref C_NoText)
  C_NoPlan : Addr
  xc_NoPlan : XcC K C_NoPlan
  mc_NoPlan : mg "NoPlan" = some (.ref C_NoPlan)
  xp_NoPlan : PySem.W.excIn K C_NoPlan [.type "ValueError", .type "Exception", .type "BaseException", .type "object"] "ValueError.__new__" = true
  C_NoBook : Addr
  xc_NoBook : XcC K C_NoBook
  mc_NoBook : mg "NoBook" = some (.ref C_NoBook)
  xp_NoBook : PySem.W.excIn K C_NoBook [.type "ValueError", .type "Exception", .type "BaseException", .type "object"] "ValueError.__new__" = true
  C_NoScript : Addr
  xc_NoScript : XcC K C_NoScript
  mc_NoScript : mg "NoScript" = some (.ref C_NoScript)
  xp_NoScript : PySem.W.excIn K C_NoScript [.type "ValueError", .type "Exception", .type "BaseException", .type "object"] "ValueError.__new__" = true
  C_NoBounds : Addr
  xc_NoBounds : XcC K C_NoBounds
  mc_NoBounds : mg "NoBounds" = some (.ref C_NoBounds)
  xp_NoBounds : PySem.W.excIn K C_NoBounds [.type "ValueError", .type "Exception", .type "BaseException", .type "object"] "ValueError.__new__" = true
  C_NotWaiting : Addr
  xc_NotWaiting : XcC K C_NotWaiting
  mc_NotWaiting : mg "NotWaiting" = some (.ref C_NotWaiting)
  xp_NotWaiting : PySem.W.excIn K C_NotWaiting [.type "ValueError", .type "Exception", .type "BaseException", .type "object"] "ValueError.__new__" = true
  C_Uneven : Addr
  xc_Uneven : XcC K C_Uneven
  mc_Uneven : mg "Uneven" = some (.ref C_Uneven)
  xp_Uneven : PySem.W.excIn K C_Uneven [.type "ValueError", .type "Exception", .type "BaseException", .type "object"] "ValueError.__new__" = true
  C_NoStep : Addr
  xc_NoStep : XcC K C_NoStep
  mc_NoStep : mg "NoStep" = some (.ref C_NoStep)
  xp_NoStep : PySem.W.excIn K C_NoStep [.type "ValueError", .type "Exception", .type "BaseException", .type "object"] "ValueError.__new__" = true
  C_TooMany : Addr
  xc_TooMany : XcC K C_TooMany
  mc_TooMany : mg "TooMany" = some (.ref C_TooMany)
  xp_TooMany : PySem.W.excIn K C_TooMany [.type "ValueError", .type "Exception", .type "BaseException", .type "object"] "ValueError.__new__" = true
  C_Endless : Addr
  xc_Endless : XcC K C_Endless
  mc_Endless : mg "Endless" = some (.ref C_Endless)
  xp_Endless : PySem.W.excIn K C_Endless [.type "ValueError", .type "Exception", .type "BaseException", .type "object"] "ValueError.__new__" = true
  C_NoLine : Addr
  xc_NoLine : XcC K C_NoLine
  mc_NoLine : mg "NoLine" = some (.ref C_NoLine)
  xp_NoLine : PySem.W.excIn K C_NoLine [.type "ValueError", .type "Exception", .type "BaseException", .type "object"] "ValueError.__new__" = true
  C_NoHouse : Addr
  xc_NoHouse : XcC K C_NoHouse
  mc_NoHouse : mg "NoHouse" = some (.ref C_NoHouse)
  xp_NoHouse : PySem.W.excIn K C_NoHouse [.type "ValueError", .type "Exception", .type "BaseException", .type "object"] "ValueError.__new__" = true
  sb_NoName_LockError : PySem.W.subIn K (.ref C_NoName) (.ref C_LockError) = some true
  sb_NoName_NoName : PySem.W.subIn K (.ref C_NoName) (.ref C_NoName) = some true
  sb_NoName_Endless : PySem.W.subIn K (.ref C_NoName) (.ref C_Endless) = some false
  sb_NoName_NoBook : PySem.W.subIn K (.ref C_NoName) (.ref C_NoBook) = some false
  sb_NoName_NoBounds : PySem.W.subIn K (.ref C_NoName) (.ref C_NoBounds) = some false
  sb_NoName_NoHouse : PySem.W.subIn K (.ref C_NoName) (.ref C_NoHouse) = some false
  sb_NoName_NoLine : PySem.W.subIn K (.ref C_NoName) (.ref C_NoLine) = some false
  sb_NoName_NoPlan : PySem.W.subIn K (.ref C_NoName) (.ref C_NoPlan) = some false
  sb_NoName_NoScript : PySem.W.subIn K (.ref C_NoName) (.ref C_NoScript) = some false
  sb_NoName_NoStep : PySem.W.subIn K (.ref C_NoName) (.ref C_NoStep) = some false
  sb_NoName_NotWaiting : PySem.W.subIn K (.ref C_NoName) (.ref C_NotWaiting) = some false
  sb_NoName_NoText : PySem.W.subIn K (.ref C_NoName) (.ref C_NoText) = some false
  sb_NoName_TooMany : PySem.W.subIn K (.ref C_NoName) (.ref C_TooMany) = some false
  sb_NoName_Uneven : PySem.W.subIn K (.ref C_NoName) (.ref C_Uneven) = some false
  sb_NoName_ValueError : PySem.W.subIn K (.ref C_NoName) (.type "ValueError") = some true
  z_ValueError : mg "ValueError" = none
  z_abs : mg "abs" = none
  z_all : mg "all" = none
  z_int : mg "int" = none
  z_isinstance : mg "isinstance" = none
  z_len : mg "len" = none
  z_max : mg "max" = none
  z_min : mg "min" = none
  z_range : mg "range" = none
  z_repr : mg "repr" = none
  z_str : mg "str" = none
  z_tuple : mg "tuple" = none
theorem b_is_known {w : World} {K : PySem.W.Frag} {mg : Str → Option Value} (T : Tp w K mg) : Binds K T.d_is_known ["thing", "names"] [] := T.F_is_known.binds fun _ _ _ _ _ _ us hl => match us, hl with | [_, _], _ => rfl
theorem b_hands_of {w : World} {K : PySem.W.Frag} {mg : Str → Option Value} (T : Tp w K mg) : Binds K T.d_hands_of ["plan"] [] := T.F_hands_of.binds fun _ _ _ _ _ _ us hl => match us, hl with | [_], _ => rfl
theorem b_all_in {w : World} {K : PySem.W.Frag} {mg : Str → Option Value} (T : Tp w K mg) : Binds K T.d_all_in ["plan"] [] := T.F_all_in.binds fun _ _ _ _ _ _ us hl => match us, hl with | [_], _ => rfl
theorem b_all_from {w : World} {K : PySem.W.Frag} {mg : Str → Option Value} (T : Tp w K mg) : Binds K T.d_all_from ["group", "around"] [] := T.F_all_from.binds fun _ _ _ _ _ _ us hl => match us, hl with | [_, _], _ => rfl
theorem b_turn_of {w : World} {K : PySem.W.Frag} {mg : Str → Option Value} (T : Tp w K mg) : Binds K T.d_turn_of ["plan", "name"] [] := T.F_turn_of.binds fun _ _ _ _ _ _ us hl => match us, hl with | [_, _], _ => rfl
theorem b_turns_in {w : World} {K : PySem.W.Frag} {mg : Str → Option Value} (T : Tp w K mg) : Binds K T.d_turns_in ["group"] [] := T.F_turns_in.binds fun _ _ _ _ _ _ us hl => match us, hl with | [_], _ => rfl
theorem b_member_turn {w : World} {K : PySem.W.Frag} {mg : Str → Option Value} (T : Tp w K mg) : Binds K T.d_member_turn ["member"] [] := T.F_member_turn.binds fun _ _ _ _ _ _ us hl => match us, hl with | [_], _ => rfl
theorem b__law_hand {w : World} {K : PySem.W.Frag} {mg : Str → Option Value} (T : Tp w K mg) : Binds K T.d__law_hand ["_law_script", "_law_k"] [] := T.F__law_hand.binds fun _ _ _ _ _ _ us hl => match us, hl with | [_, _], _ => rfl
theorem b__law_take {w : World} {K : PySem.W.Frag} {mg : Str → Option Value} (T : Tp w K mg) : Binds K T.d__law_take ["_law_hand_here", "_law_many"] [] := T.F__law_take.binds fun _ _ _ _ _ _ us hl => match us, hl with | [_, _], _ => rfl
theorem b__law_pick {w : World} {K : PySem.W.Frag} {mg : Str → Option Value} (T : Tp w K mg) : Binds K T.d__law_pick ["_law_hand_here", "_law_some"] [] := T.F__law_pick.binds fun _ _ _ _ _ _ us hl => match us, hl with | [_, _], _ => rfl
theorem b__law_name {w : World} {K : PySem.W.Frag} {mg : Str → Option Value} (T : Tp w K mg) : Binds K T.d__law_name ["_law_box"] [] := T.F__law_name.binds fun _ _ _ _ _ _ us hl => match us, hl with | [_], _ => rfl
theorem b__law_lot {w : World} {K : PySem.W.Frag} {mg : Str → Option Value} (T : Tp w K mg) : Binds K T.d__law_lot ["_law_box", "_law_many", "_law_bound"] [] := T.F__law_lot.binds fun _ _ _ _ _ _ us hl => match us, hl with | [_, _, _], _ => rfl
theorem b__law_upper {w : World} {K : PySem.W.Frag} {mg : Str → Option Value} (T : Tp w K mg) : Binds K T.d__law_upper ["_law_hand_here", "_law_box", "_law_even"] [] := T.F__law_upper.binds fun _ _ _ _ _ _ us hl => match us, hl with | [_, _, _], _ => rfl
theorem b__law_plan {w : World} {K : PySem.W.Frag} {mg : Str → Option Value} (T : Tp w K mg) : Binds K T.d__law_plan ["_law_hand_here", "_law_even"] [] := T.F__law_plan.binds fun _ _ _ _ _ _ us hl => match us, hl with | [_, _], _ => rfl
theorem b__law_hands {w : World} {K : PySem.W.Frag} {mg : Str → Option Value} (T : Tp w K mg) : Binds K T.d__law_hands ["_law_plan_here"] [] := T.F__law_hands.binds fun _ _ _ _ _ _ us hl => match us, hl with | [_], _ => rfl
theorem b__law_groups {w : World} {K : PySem.W.Frag} {mg : Str → Option Value} (T : Tp w K mg) : Binds K T.d__law_groups ["_law_plan_here"] [] := T.F__law_groups.binds fun _ _ _ _ _ _ us hl => match us, hl with | [_], _ => rfl
theorem b__law_turn {w : World} {K : PySem.W.Frag} {mg : Str → Option Value} (T : Tp w K mg) : Binds K T.d__law_turn ["_law_member"] [] := T.F__law_turn.binds fun _ _ _ _ _ _ us hl => match us, hl with | [_], _ => rfl
theorem b__law_great {w : World} {K : PySem.W.Frag} {mg : Str → Option Value} (T : Tp w K mg) : Binds K T.d__law_great ["_law_hand_here", "_law_plan_here"] [] := T.F__law_great.binds fun _ _ _ _ _ _ us hl => match us, hl with | [_, _], _ => rfl
theorem b__law_refused {w : World} {K : PySem.W.Frag} {mg : Str → Option Value} (T : Tp w K mg) : Binds K T.d__law_refused ["_law_plan_here", "_law_thing"] [] := T.F__law_refused.binds fun _ _ _ _ _ _ us hl => match us, hl with | [_, _], _ => rfl
theorem b_NoName___init__ {w : World} {K : PySem.W.Frag} {mg : Str → Option Value} (T : Tp w K mg) : Binds K T.d_NoName___init__ ["self", "name"] [] := T.F_NoName___init__.binds fun _ _ _ _ _ _ us hl => match us, hl with | [_, _], _ => rfl
section
variable {P : Program} {w : World} {K : PySem.W.Frag} {mg : Str → Option Value} {base : Heap}
theorem ok_NoName___init__ (T : Tp w K mg) : FnOk P w K mg base CX0 1 T.f_NoName___init__ T.d_NoName___init__ ["self", "name"] (spXInit K "name") := by
  refine T.F_NoName___init__.ok sc_NoName___init__ (fun vs H Q E h => ?_) (fun cdv A outer s H vs Q E hr h => ?_)
  · obtain ⟨a, C, v, rfl, _⟩ := h
    rfl
  obtain ⟨a, C, v, rfl, c, no, ha, q⟩ := h
  refine ⟨_, (pss_one (ps_ost (pv 0) (pv 1))), ?_⟩
  exact ⟨v, rfl, _, rfl, a, C, rfl, c, no, Or.inl ⟨ha, fun dx nd ne => q dx nd ne⟩⟩
end
/-! ### the program's rows of a plan -/
def spAF (K : PySem.W.Frag) (d : Nat) : Sp := fun vs H Q _ => ∃ (v : V) (pa : Addr) (n : Str) (b : Int) (ms : List Tr) (p : List Str), vs = [v, .ref pa] ∧ TrV H v (.grp n b ms) ∧ H pa = some (.tup (p.map V.str)) ∧ (Tr.grp n b ms).deep ≤ d ∧ (Tr.grp n b ms).size ≤ 1000 ∧ p.length + d ≤ 1000 ∧
  ∀ r xs H', Ex H H' → H r = none → H' r = some (.lst xs) → RowsB H' xs ((Tr.grp n b ms).rows p) → Q (.ref r) H'
def spAll (K : PySem.W.Frag) : Sp := fun vs H Q _ => ∃ (v : V) (n : Str) (b : Int) (ms : List Tr), vs = [v] ∧ TrV H v (.grp n b ms) ∧ (Tr.grp n b ms).deep ≤ 12 ∧ (Tr.grp n b ms).size ≤ 1000 ∧
  ∀ r xs H', Ex H H' → H r = none → H' r = some (.lst xs) → RowsB H' xs ((Tr.grp n b ms).rows []) → Q (.ref r) H'
def spNames (K : PySem.W.Frag) (f : Tr → List Str) : Sp := fun vs H Q _ => ∃ (v : V) (n : Str) (b : Int) (ms : List Tr), vs = [v] ∧ TrV H v (.grp n b ms) ∧ (Tr.grp n b ms).deep ≤ 12 ∧ (Tr.grp n b ms).size ≤ 1000 ∧
  ∀ a H', Ex H H' → H' a = some (.tup ((f (.grp n b ms)).map V.str)) → Q (.ref a) H'
section
variable {P : Program} {w : World} {K : PySem.W.Frag} {mg : Str → Option Value} {base : Heap}
theorem af_none (T : Tp w K mg) : FnOk P w K mg base CX0 0 T.f_all_from T.d_all_from ["group", "around"] (spAF K 0) := by
  have no : ∀ vs H Q E, ¬ spAF K 0 vs H Q E := fun vs H Q E h => by
    obtain ⟨v, pa, n, b, ms, p, _, _, _, hd, _⟩ := h
    simp [Tr.deep] at hd
  exact ⟨fun vs H Q E h => (no vs H Q E h).elim, fun A outer s H args us vs Q E _ _ _ _ h => (no vs H Q E h).elim⟩
theorem af_more (T : Tp w K mg) {d : Nat} (ih : FnOk P w K mg base CX0 d T.f_all_from T.d_all_from ["group", "around"] (spAF K d)) : FnOk P w K mg base CX0 (d + 1) T.f_all_from T.d_all_from ["group", "around"] (spAF K (d + 1)) := by
  refine T.F_all_from.ok sc_all_from (fun vs H Q E h => ?_) (fun cdv A outer s H vs Q E hr h => ?_)
  · obtain ⟨v, pa, n, b, ms, p, rfl, _⟩ := h
    rfl
  obtain ⟨v, pa, n, b, ms, p, rfl, hv, hpa, hdeep, hsize, hpl, q⟩ := h
  cases hv with
  | grp h1 h2 h3 =>
  rename_i a m xs
  refine ⟨_, (pss_cons (ps_asg (pv 0) (pg_tup rfl (pgs_cons (pg_name (i := 2) sc_all_from.nd rfl (Or.inl rfl)) (pgs_cons (pg_name (i := 3) sc_all_from.nd rfl (Or.inl rfl)) (pgs_cons (pg_name (i := 4) sc_all_from.nd rfl (Or.inl rfl)) pgs_nil)))))
  (pss_cons (ps_set (i := 5) sc_all_from.nd rfl (Or.inl rfl) (pe_lst (pa_cons (pe_tup (pa_cons (pv 2) (pa_cons (pv 3) (pa_cons (pv 1) pa_nil (star1 rfl)) (star1 rfl)) (star1 rfl))) pa_nil (star1 rfl))))
  (pss_cons (ps_set (i := 6) sc_all_from.nd rfl (Or.inl rfl) (pe_tup (pa_cons (pv 2) (StX.pa_star (pv 1) pa_nil) (star1 rfl))))
  (pss_cons (ps_for PassesOwn.never rfl (pi_tup (pv 4)) (pg_name (i := 7) sc_all_from.nd rfl (Or.inl rfl)) (pss_one (ps_if (pt_val (pe_callB (isiK (K := K) rfl) rfl T.z_isinstance (by decide +kernel) (pa_cons (pv 7) (pa_cons (pe_bltn (v := .ty "str") rfl T.z_str (by decide +kernel) rfl) pa_nil (star1 rfl)) (star1 rfl)) (by decide) (by decide) (star1 rfl) (starAll rfl))) (pss_one (ps_expr (pe_bm PySem.F.plainAttrs_list PySem.F.slot_list_append PySem.F.type_list_append mt_append (pv 5) (pa_cons (pe_tup (pa_cons (pv 7) (pa_cons pe_non (pa_cons (pv 6) pa_nil (star1 rfl)) (star1 rfl)) (star1 rfl))) pa_nil (star1 rfl))))) (pss_one (ps_expr (pe_bm PySem.F.plainAttrs_list PySem.F.slot_list_extend PySem.F.type_list_extend mt_extend (pv 5) (pa_cons (pe_call ih hr rfl T.m_all_from T.F_all_from.kp (b_all_from T) .nil pass0 (pa_cons (pv 7) (pa_cons (pv 6) pa_nil (star1 rfl)) (star1 rfl)) (by decide) (star1 rfl) (starAll rfl)) pa_nil (star1 rfl))))))))
  (pss_one (ps_ret (pv 5))))))), ?_⟩
  -- name, bound, members = group
  refine q_asgG ?_
  refine ⟨_, rfl, a, _, rfl, st_of h1, rfl, _, _, rfl, _, _, rfl, _, _, rfl, rfl, ?_⟩
  -- rows = [(name, bound, around)]
  refine q_asgP ?_
  refine ⟨_, rfl, _, rfl, _, rfl, (by show 3 ≤ sizeLine; decide), fun t1 ht1 => ⟨(by show 1 ≤ sizeLine; decide), fun r hr1 => ?_⟩⟩
  generalize hH1 : upd (upd H t1 (.tup [.str n, .int b, .ref pa])) r (.lst [.ref t1]) = H1
  have e1 : Ex H H1 := by rw [← hH1]; exact (Ex.new ht1).trans (Ex.new hr1)
  have rH : H r = none := fresh_back (Ex.new ht1) hr1
  have hr2 : H1 r = some (.lst [.ref t1]) := by rw [← hH1]; exact upd_same
  have row1 : RowB H1 (.ref t1) (n, some b, p) := ⟨t1, pa, rfl, by rw [← hH1]; exact (Ex.new hr1) _ _ upd_same, e1 _ _ hpa⟩
  -- inside = (name, *around)
  refine q_asgP ?_
  refine ⟨_, rfl, _, rfl, pa, p.map V.str, rfl, Or.inl (st_of (e1 _ _ hpa)), sz_of (by simp; omega), fun ia hia => ?_⟩
  generalize hH2 : upd H1 ia (.tup (V.str n :: (p.map V.str ++ []))) = H2
  have e2 : Ex H1 H2 := by rw [← hH2]; exact Ex.new hia
  have hin : H2 ia = some (.tup ((n :: p).map V.str)) := by
    rw [← hH2, upd_same, List.append_nil]
    rfl
  have e12 := e1.trans e2
  have hdp : deeps ms ≤ d := by simp only [Tr.deep] at hdeep; omega
  have hsz : sizes ms ≤ 1000 := by simp only [Tr.size] at hsize; omega
  -- for member in members
  refine q_forT (K := K) (a := m) (xs := xs) (ev_var rfl) (st_of (e12 _ _ h2)) (fun i σ' H' => Ex H H' ∧ H' ia = some (.tup ((n :: p).map V.str)) ∧ ∃ ys c, σ' = [some (.ref a), some (.ref pa), some (.str n), some (.int b), some (.ref m), some (.ref r), some (.ref ia), c] ∧ H' r = some (.lst ys) ∧ RowsB H' ys ((n, some b, p) :: rowss (ms.take i) (n :: p))) ?_ ?_ ?_ ?_
  · intro H3 e3
    refine ⟨e12.trans e3, e3 _ _ hin, [.ref t1], none, rfl, e3 _ _ (e2 _ _ hr2), ?_⟩
    simp only [List.take_zero, rowss]
    exact RowsB.one (row1.tk (TK.ex (e2.trans e3)))
  · intro i σ' H' _ hP
    exact st_of (hP.1 _ _ h2)
  · intro i x σ' H' hx hP
    obtain ⟨e3, hin3, ys, c, rfl, hr3, hrows⟩ := hP
    obtain ⟨t, ht, tv⟩ := trvs_get h3 hx
    have tv3 := trv_tk (TK.ex e3) t x tv
    have hyl : ys.length ≤ 1001 := by
      have := hrows.len
      simp only [List.length_cons, rowss_len] at this
      have := sizes_take ms i
      omega
    have hstep : (n, some b, p) :: rowss (ms.take (i + 1)) (n :: p) = ((n, some b, p) :: rowss (ms.take i) (n :: p)) ++ t.rows (n :: p) := by
      rw [rowss_take ms i t (n :: p) ht]
      rfl
    refine s_if (et_B (ev_isHand (ev_var rfl) tv3)) (fun hb H4 e4 => ?_) (fun hb H4 e4 => ?_)
    · cases tv3 with
      | hand nm =>
        refine ⟨.ref r, rfl, Or.inl ⟨rfl, ys, sq_of (e4 _ _ hr3)⟩, _, rfl, _, rfl, (by show 3 ≤ sizeLine; decide), fun t2 ht2 => ?_⟩
        refine ⟨r, ys, _, rfl, rfl, (Ex.new ht2) _ _ (e4 _ _ hr3), sz_lt (by omega), ?_⟩
        generalize hH5 : upd H4 t2 (.tup [.str nm, .non, .ref ia]) = H5
        have e5 : Ex H4 H5 := by rw [← hH5]; exact Ex.new ht2
        have hr5 : H5 r = some (.lst ys) := e5 _ _ (e4 _ _ hr3)
        have k5 : TK H5 (upd H5 r (.lst (ys ++ [.ref t2]))) := TK.lst hr5
        refine ⟨Ex.mut ((e3.trans e4).trans e5) rH, k5 _ _ (e5 _ _ (e4 _ _ hin3)), ys ++ [.ref t2], _, rfl, upd_same, ?_⟩
        rw [hstep]
        refine RowsB.tk k5 ((hrows.tk (TK.ex (e4.trans e5))).app (RowsB.one ⟨t2, ia, rfl, by rw [← hH5]; exact upd_same, e5 _ _ (e4 _ _ hin3)⟩))
      | grp _ _ _ => cases hb
    · cases tv3 with
      | hand nm => cases hb
      | grp g1 g2 g3 =>
        rename_i a' m' n' b' xs' ms'
        refine ⟨.ref r, rfl, Or.inl ⟨rfl, ys, sq_of (e4 _ _ hr3)⟩, _, rfl, _, rfl, .ref a', ia, n', b', ms', n :: p, rfl, trv_tk (TK.ex e4) _ _ (.grp g1 g2 g3), e4 _ _ hin3, ?_, ?_, ?_, fun b2 zs H5 e5 hb2 hb5 hrw => ?_⟩
        · have := deeps_mem ht
          omega
        · have := sizes_mem ht
          omega
        · simp only [List.length_cons]
          omega
        have hr5 : H5 r = some (.lst ys) := e5 _ _ (e4 _ _ hr3)
        have hzl := hrw.len
        rw [rows_len] at hzl
        have := sizes_mem ht
        refine ⟨r, b2, ys, zs, rfl, rfl, hr5, hb5, sz_of (by omega), ?_⟩
        have k5 : TK H5 (upd H5 r (.lst (ys ++ zs))) := TK.lst hr5
        refine ⟨Ex.mut ((e3.trans e4).trans e5) rH, k5 _ _ (e5 _ _ (e4 _ _ hin3)), ys ++ zs, _, rfl, upd_same, ?_⟩
        rw [hstep]
        exact RowsB.tk k5 ((hrows.tk (TK.ex (e4.trans e5))).app hrw)
  · intro σ' H' hP
    obtain ⟨e3, hin3, ys, c, rfl, hr3, hrows⟩ := hP
    rw [trvs_len h3, List.take_length] at hrows
    refine s_ret (v := .ref r) (ev_var rfl) fun H4 e4 => q r ys H4 (e3.trans e4) rH (e4 _ _ hr3) ?_
    simp only [Tr.rows]
    exact hrows.tk (TK.ex e4)
theorem af_all (T : Tp w K mg) : ∀ d, FnOk P w K mg base CX0 d T.f_all_from T.d_all_from ["group", "around"] (spAF K d)
  | 0 => af_none T
  | d + 1 => af_more T (af_all T d)
theorem ok_all_from (T : Tp w K mg) : FnOk P w K mg base CX0 12 T.f_all_from T.d_all_from ["group", "around"] (spAF K 12) := af_all T 12
theorem ok_all_in (T : Tp w K mg) : FnOk P w K mg base CX0 13 T.f_all_in T.d_all_in ["plan"] (spAll K) := by
  refine T.F_all_in.ok sc_all_in (fun vs H Q E h => ?_) (fun cdv A outer s H vs Q E hr h => ?_)
  · obtain ⟨v, n, b, ms, rfl, _⟩ := h
    rfl
  obtain ⟨v, n, b, ms, rfl, hv, hd, hs, q⟩ := h
  refine ⟨_, (pss_one (ps_ret (pe_call (ok_all_from T) (hr.mono (by decide)) rfl T.m_all_from T.F_all_from.kp (b_all_from T) .nil pass0 (pa_cons (pv 0) (pa_cons (pe_tup pa_nil) pa_nil (star1 rfl)) (star1 rfl)) (by decide) (star1 rfl) (starAll rfl)))), ?_⟩
  refine s_retP ?_
  refine ⟨_, rfl, (by show 0 ≤ sizeLine; decide), fun t ht => ⟨v, t, n, b, ms, [], rfl, trv_tk (TK.new ht) _ _ hv, upd_same, hd, hs, by decide, fun r xs H' e hr' h1 h2 => ?_⟩⟩
  exact q r xs H' ((Ex.new ht).trans e) (fresh_back (Ex.new ht) hr') h1 h2
end
section
variable {P : Program} {w : World} {K : PySem.W.Frag} {mg : Str → Option Value} {base : Heap}
theorem ok_hands_of (T : Tp w K mg) : FnOk P w K mg base CX0 14 T.f_hands_of T.d_hands_of ["plan"] (spNames K handsOf) := by
  refine T.F_hands_of.ok sc_hands_of (fun vs H Q E h => ?_) (fun cdv A outer s H vs Q E hr h => ?_)
  · obtain ⟨v, n, b, ms, rfl, _⟩ := h
    rfl
  obtain ⟨v, n, b, ms, rfl, hv, hdp, hsz, q⟩ := h
  refine ⟨_, (pss_one (ps_ret (pe_callTy call_tuple_of rfl T.z_tuple (by decide +kernel) (pa_cons (pe_lc (own := [("name", 1), ("bound", 2), ("path", 3)]) (g := gTup K 3 (gCons (gName 1) (gCons (gName 2) (gCons (gName 3) gNil)))) rfl sc_hands_of.nd (pi_list (pe_call (ok_all_in T) (hr.mono (by decide)) rfl T.m_all_in T.F_all_in.kp (b_all_in T) .nil pass0 (pa_cons (pv 0) pa_nil (star1 rfl)) (by decide) (star1 rfl) (starAll rfl))) (blkOk_by (N := N_hands_of) (sc := defScope s_hands_of) (by decide +kernel)) (fun _ _ _ _ _ => (pg_tup rfl (pgs_cons (pg_name (i := 1) sc_hands_of.nd rfl (Or.inl rfl)) (pgs_cons (pg_name (i := 2) sc_hands_of.nd rfl (Or.inl rfl)) (pgs_cons (pg_name (i := 3) sc_hands_of.nd rfl (Or.inl rfl)) pgs_nil))))) (fun _ _ _ _ _ => (pts_one (pt_cmp (pc_isN (pv 2))))) (fun _ _ _ _ _ => (pv 1))) pa_nil (star1 rfl)) (by decide) (by decide) (star1 rfl) (starAll rfl)))), ?_⟩
  refine s_retP ?_
  refine ⟨_, rfl, v, n, b, ms, rfl, hv, hdp, hsz, fun r xs H1 e1 hr1 h1 rows => ⟨r, rfl, ⟨xs, sq_of h1⟩, fun D hD => ?_⟩⟩
  generalize hrs : (Tr.grp n b ms).rows [] = rs at rows
  have hlen : rs.length ≤ 1000 := by rw [← hrs, rows_len]; exact hsz
  have hxl := rows.len
  refine lc_list (K := K) (a := r) (xs := xs) (fun i H' => Ex H1 H' ∧ H' D = some (.lst (((rs.take i).filter fun r => !r.2.1.isSome).map fun r => V.str r.1))) ⟨Ex.new hD, upd_same⟩ (fun i H' _ hP => sq_of (hP.1 _ _ h1)) ?_ ?_
  · intro i x H' hx hP
    obtain ⟨e2, hacc⟩ := hP
    obtain ⟨rw', hrw, a, pa, rfl, ha, hpa⟩ := rows.get hx
    obtain ⟨nm, g, p⟩ := rw'
    refine ⟨a, _, rfl, st_of (e2 _ _ ha), rfl, _, _, rfl, _, _, rfl, _, _, rfl, rfl, rfl, _, rfl, _, rfl, ?_⟩
    have hl2 : (((rs.take i).filter fun r => !r.2.1.isSome).map fun r => V.str r.1).length ≤ 1000 := by
      rw [List.length_map]
      exact Nat.le_trans (List.length_filter_le _ _) (by rw [List.length_take]; omega)
    cases g with
    | none =>
      refine iteT ?_
      refine ⟨_, rfl, _, hacc, sz_lt (by omega), Ex.mut e2 hD, ?_⟩
      rw [upd_same, filter_take hrw]
      simp
    | some bd =>
      refine iteF ?_
      refine ⟨e2, ?_⟩
      rw [hacc, filter_take hrw]
      simp
  · intro H' hP
    obtain ⟨e2, hacc⟩ := hP
    rw [hxl, List.take_length] at hacc
    refine ⟨D, _, rfl, Or.inl ⟨sq_of hacc, fun t ht => ?_⟩⟩
    refine q t _ ((e1.trans e2).trans (Ex.new ht)) ?_
    rw [upd_same]
    rw [hands_rows, hrs, List.map_map]
    rfl
end
/-! ### turns, and even plans, by the program -/
def spMT (K : PySem.W.Frag) (d : Nat) : Sp := fun vs H Q _ => ∃ (v : V) (t : Tr), vs = [v] ∧ TrV H v t ∧ t.ok ∧ t.deep ≤ d ∧ d ≤ 11 ∧ t.size ≤ 1000 ∧ ∀ H', Ex H H' → Q (.int t.turn) H'
section
variable {P : Program} {w : World} {K : PySem.W.Frag} {mg : Str → Option Value} {base : Heap}
theorem mt_step (T : Tp w K mg) {d : Nat} {spR : Sp} (ih : FnOk P w K mg base CX0 (d + 14) T.f_member_turn T.d_member_turn ["member"] spR) (hR : ∀ k, d = k + 1 → spR = spMT K k) : FnOk P w K mg base CX0 (d + 15) T.f_member_turn T.d_member_turn ["member"] (spMT K d) := by
  refine T.F_member_turn.ok sc_member_turn (fun vs H Q E h => ?_) (fun cdv A outer s H vs Q E hr h => ?_)
  · obtain ⟨v, t, rfl, _⟩ := h
    rfl
  obtain ⟨v, t, rfl, tv, hok, hdp, hd, hsz, q⟩ := h
  refine ⟨_, (pss_cons (ps_if (PW.pt (pw_or (pt_val (pe_callB (isiK (K := K) rfl) rfl T.z_isinstance (by decide +kernel) (pa_cons (pv 0) (pa_cons (pe_bltn (v := .ty "str") rfl T.z_str (by decide +kernel) rfl) pa_nil (star1 rfl)) (star1 rfl)) (by decide) (by decide) (star1 rfl) (starAll rfl))) (pw_or1 (pt_cmpR op_eq (pe_callB (lenK (K := K) rfl) rfl T.z_len PySem.boot_len (pa_cons (pe_call (ok_hands_of T) (hr.mono (by omega)) rfl T.m_hands_of T.F_hands_of.kp (b_hands_of T) .nil pass0 (pa_cons (pv 0) pa_nil (star1 rfl)) (by decide) (star1 rfl) (starAll rfl)) pa_nil (star1 rfl)) (by decide) (by decide) (star1 rfl) (starAll rfl)) pe_int (nomark _))))) (pss_one (ps_ret pe_int)) pss_nil)
  (pss_cons (ps_asg (pv 0) (pg_tup rfl (pgs_cons (pg_name (i := 1) sc_member_turn.nd rfl (Or.inl rfl)) (pgs_cons (pg_name (i := 2) sc_member_turn.nd rfl (Or.inl rfl)) (pgs_cons (pg_name (i := 3) sc_member_turn.nd rfl (Or.inl rfl)) pgs_nil)))))
  (pss_one (ps_ret (pe_op op_mul (pv 2) (pe_callB (maxK (K := K) rfl rfl) rfl T.z_max (by decide +kernel) (pa_cons (pe_lc (own := [("one", 4)]) (g := gName 4) (tt := tYes) rfl sc_member_turn.nd (piTK (K := K) rfl (pv 3)) (blkOk_by (N := N_member_turn) (sc := defScope s_member_turn) (by decide +kernel)) (fun _ _ _ _ _ => (pg_name (i := 4) sc_member_turn.nd rfl (Or.inl rfl))) (fun _ _ _ _ _ => pts_nil) (fun _ _ _ _ _ => (pe_call ih hr rfl T.m_member_turn T.F_member_turn.kp (b_member_turn T) .nil pass0 (pa_cons (pv 4) pa_nil (star1 rfl)) (by decide) (star1 rfl) (starAll rfl)))) pa_nil (star1 rfl)) (by decide) (by decide) (star1 rfl) (starAll rfl))))))), ?_⟩
  have t1 : EvT (tB (tCB (rIsi K) (tCons (tVar 0) (tCons (tC (.ty "str")) tNil)))) (start N_member_turn [v]) H t.isHand := et_B (ev_isHand (ev_var rfl) tv)
  cases tv with
  | hand n =>
    refine q_when (b := true) (et_is (et_or (b := false) t1 fun h => by cases h) rfl) (fun _ H1 e1 => s_ret ev_c fun H2 e2 => q H2 (e1.trans e2)) (fun h => by cases h)
  | @grp a m n b xs ms h1 h2 h3 =>
    have tv : TrV H (.ref a) (.grp n b ms) := .grp h1 h2 h3
    obtain ⟨k, rfl⟩ : ∃ k, d = k + 1 := ⟨d - 1, by simp only [Tr.deep] at hdp; omega⟩
    have eR := hR k rfl
    subst eR
    have hlen : Ev (tCB (rLenS K) (tCons (tCall (spNames K handsOf) [] E0 (tCons (tVar 0) tNil)) tNil)) (start N_member_turn [.ref a]) H (.int ((Tr.grp n b ms).hn : Int)) := by
      intro H1 e1 Q' q'
      refine ⟨_, rfl, .ref a, n, b, ms, rfl, trv_tk (TK.ex e1) _ _ tv, by omega, hsz, fun p H2 e2 hp => ⟨p, _, rfl, Or.inr (st_of hp), ?_⟩⟩
      rw [List.length_map, hands_hn]
      exact q' H2 e2
    refine q_when (b := decide (hns ms = 1)) (et_is (et_or (a := false) t1 fun _ => et_test (ev_eq hlen ev_c rfl)) ?_) (fun hb H1 e1 => ?_) (fun hb H1 e1 => ?_)
    · rw [Bool.false_or]
      simp only [Tr.hn]
      refine decide_eq_decide.mpr ⟨fun z => ?_, fun z => by rw [z]; rfl⟩
      injection z with z
      omega
    · have hb := of_decide_eq_true hb
      refine s_ret ev_c fun H2 e2 => ?_
      have q2 := q H2 (e1.trans e2)
      simp only [Tr.turn] at q2
      rw [if_pos hb] at q2
      exact q2
    · have hb := of_decide_eq_false hb
      refine q_asgG ?_
      refine ⟨_, rfl, a, _, rfl, st_of (e1 _ _ h1), rfl, _, _, rfl, _, _, rfl, _, _, rfl, rfl, ?_⟩
      simp only [Tr.ok] at hok
      have hl := trvs_len h3
      have hsz2 : sizes ms ≤ 1000 := by simp only [Tr.size] at hsz; omega
      have hls := len_sizes ms
      have hdp2 : deeps ms ≤ k := by simp only [Tr.deep] at hdp; omega
      refine s_ret (ev_is (ev_I (C := CMul) (g := fun i j => .int (i * j)) (i := b) (j := maxs ms) (Or.inl ⟨by omega, by omega⟩) (ev_var rfl) (ev_maxN (ns := ms.map Tr.turn) ?_ (max_in hok.2.2.2 hok.2.2.1) max_le)) (w := .int (Tr.grp n b ms).turn) ?_) fun H2 e2 => q H2 (e1.trans e2)
      · have c := el_lcT (K := K) (σ := [some (.ref a), some (.str n), some (.int b), some (.ref m), none]) (H := H1) (a := m) (xs := xs) (tl := tVar 3) (tt := tYes) (te := tCall (spMT K k) [] E0 (tCons (tVar 4) tNil)) (j := 4) (vs := [4]) (fun _ => true) (fun i => .int (ms.getD i (.hand "")).turn) (ev_var rfl) (st_of (e1 _ _ h2)) (by omega) (fun x => rfl) (fun i x H1 e1 hx => et_yes) (fun i x H2 e2 hx _ => ?_)
        · rw [given_all, hl] at c
          have e : (List.range ms.length).map (fun i => V.int (ms.getD i (.hand "")).turn) = (ms.map Tr.turn).map V.int := by
            rw [map_range (fun t => V.int t.turn), List.map_map]
            rfl
          rw [e] at c
          exact c
        · obtain ⟨u, hu, tu⟩ := trvs_get h3 hx
          have : ms.getD i (.hand "") = u := by simp [List.getD_eq_getElem?_getD, hu]
          rw [this]
          have s1 := sizes_mem hu
          have s2 := deeps_mem hu
          exact ev_call (ea_cons (ev_var rfl) ea_nil) fun H3 e3 Q' q' E' => ⟨x, u, rfl, trv_tk (TK.ex ((e1.trans e2).trans e3)) _ _ tu, oks_get hok.2.2.2 hu, by omega, by omega, by omega, q'⟩
      · simp only [Tr.turn]
        rw [if_neg hb]
theorem mt_all (T : Tp w K mg) : ∀ d, FnOk P w K mg base CX0 (d + 15) T.f_member_turn T.d_member_turn ["member"] (spMT K d)
  | 0 => mt_step T (spR := fun _ _ _ _ => False) ⟨fun _ _ _ _ h => h.elim, fun _ _ _ _ _ _ _ _ _ _ _ _ _ h => h.elim⟩ (fun k h => by cases h)
  | d + 1 => mt_step T (mt_all T d) (fun k h => by cases h; rfl)
theorem ok_member_turn (T : Tp w K mg) : FnOk P w K mg base CX0 19 T.f_member_turn T.d_member_turn ["member"] (spMT K 4) := mt_all T 4
end
/-! ### trees whose names are all unlike: by the numbers of their names -/
structure GI (f b : Int) (lo hi d : Nat) (t : Tr) : Prop where
  ok : t.ok
  dp : t.deep ≤ d
  ix : ∃ is : List Nat, t.nms = is.map (nmL f b) ∧ is.Nodup ∧ ∀ i ∈ is, lo < i ∧ i ≤ hi
theorem GI.up {f b : Int} {lo hi lo' hi' d d' : Nat} {t : Tr} (g : GI f b lo hi d t) (h1 : lo' ≤ lo) (h2 : hi ≤ hi') (h3 : d ≤ d') : GI f b lo' hi' d' t := ⟨g.ok, Nat.le_trans g.dp h3, by
  obtain ⟨is, a, c, e⟩ := g.ix
  exact ⟨is, a, c, fun i hi => by have := e i hi; omega⟩⟩
theorem GI.hand {f b : Int} {lo hi d j : Nat} (h1 : lo < j) (h2 : j ≤ hi) : GI f b lo hi d (.hand (nmL f b j)) := ⟨trivial, Nat.zero_le _, [j], rfl, List.nodup_cons.mpr ⟨List.not_mem_nil, List.nodup_nil⟩, fun i hi => by
  rw [List.mem_singleton.mp hi]
  exact ⟨h1, h2⟩⟩
structure GIs (f b : Int) (lo hi d : Nat) (ts : List Tr) : Prop where
  ok : oks ts
  dp : deeps ts ≤ d
  sz : sizes ts + lo ≤ hi
  ix : ∃ is : List Nat, nmss ts = is.map (nmL f b) ∧ is.Nodup ∧ ∀ i ∈ is, lo < i ∧ i ≤ hi
theorem GIs.nil {f b : Int} {lo d : Nat} : GIs f b lo lo d [] := ⟨trivial, Nat.zero_le _, by simp [sizes], [], rfl, List.nodup_nil, fun i hi => by cases hi⟩
theorem GIs.up {f b : Int} {lo hi lo' hi' d d' : Nat} {ts : List Tr} (g : GIs f b lo hi d ts) (h1 : lo' ≤ lo) (h2 : hi ≤ hi') (h3 : d ≤ d') : GIs f b lo' hi' d' ts := ⟨g.ok, Nat.le_trans g.dp h3, by have := g.sz; omega, by
  obtain ⟨is, a, c, e⟩ := g.ix
  exact ⟨is, a, c, fun i hi => by have := e i hi; omega⟩⟩
theorem oks_both : ∀ {a c : List Tr}, oks (a ++ c) → oks a ∧ oks c
  | [], c, h => ⟨trivial, h⟩
  | t :: a, c, h => by
    simp only [List.cons_append, oks] at h ⊢
    exact ⟨⟨h.1, (oks_both h.2).1⟩, (oks_both h.2).2⟩
theorem GIs.grp {f b : Int} {lo lo' hi d j : Nat} {ms : List Tr} {c : Int} (g : GIs f b lo hi d ms) (hn : ms ≠ []) (c1 : 1 ≤ c) (c2 : c ≤ 999999999) (j1 : lo' < j) (j2 : j ≤ hi) (hl : lo' ≤ lo) (j3 : j ≤ lo) : GI f b lo' hi (d + 1) (.grp (nmL f b j) c ms) where
  ok := ⟨c1, c2, hn, g.ok⟩
  dp := by
    simp only [Tr.deep]
    have := g.dp
    omega
  ix := by
    obtain ⟨is, a, n, e⟩ := g.ix
    refine ⟨j :: is, by simp only [Tr.nms, a, List.map_cons], List.nodup_cons.mpr ⟨fun z => ?_, n⟩, fun i hi => ?_⟩
    · have := e j z
      omega
    · rcases List.mem_cons.mp hi with z | z
      · omega
      · have := e i z
        omega
theorem GIs.cat {f b : Int} {lo mid hi d : Nat} {a c : List Tr} (g : GIs f b lo mid d a) (g2 : GIs f b mid hi d c) : GIs f b lo hi d (a ++ c) := by
  obtain ⟨i1, a1, n1, e1⟩ := g.ix
  obtain ⟨i2, a2, n2, e2⟩ := g2.ix
  have s1 := g.sz
  have s2 := g2.sz
  refine ⟨oks_app g.ok g2.ok, by rw [deeps_app]; have := g.dp; have := g2.dp; omega, by rw [sizes_app]; omega, i1 ++ i2, by rw [nmss_app, a1, a2, List.map_append], List.nodup_append.mpr ⟨n1, n2, fun x hx y hy z => ?_⟩, fun i hi => ?_⟩
  · have := e1 x hx
    have := e2 y hy
    omega
  · rcases List.mem_append.mp hi with z | z
    · have := e1 i z
      omega
    · have := e2 i z
      omega
theorem GIs.ins {f b : Int} {lo mid hi d : Nat} {a c : List Tr} {t : Tr} (g : GIs f b lo mid d (a ++ c)) (gt : GI f b mid hi d t) (hs : t.size + mid ≤ hi) (hm : lo ≤ mid) : GIs f b lo hi d (a ++ [t] ++ c) := by
  obtain ⟨i1, a1, n1, e1⟩ := g.ix
  obtain ⟨i2, a2, n2, e2⟩ := gt.ix
  have s1 := g.sz
  have dp := g.dp
  have dt := gt.dp
  rw [sizes_app] at s1
  rw [deeps_app] at dp
  rw [nmss_app] at a1
  obtain ⟨o1, o2⟩ := oks_both g.ok
  obtain ⟨la, lc, rfl, ea, ec⟩ := List.append_eq_map_iff.mp a1
  refine ⟨oks_app (oks_app o1 ⟨gt.ok, trivial⟩) o2, ?_, ?_, la ++ i2 ++ lc, ?_, ?_, fun i hi => ?_⟩
  · rw [deeps_app, deeps_app]
    simp only [deeps]
    omega
  · rw [sizes_app, sizes_app]
    simp only [sizes]
    omega
  · rw [nmss_app, nmss_app, List.map_append, List.map_append, ea, ec, ← a2]
    simp [nmss]
  · have p : (la ++ i2 ++ lc).Perm ((la ++ lc) ++ i2) := by
      rw [List.append_assoc, List.append_assoc]
      exact List.Perm.append_left la List.perm_append_comm
    refine p.nodup_iff.mpr (List.nodup_append.mpr ⟨n1, n2, fun x hx y hy z => ?_⟩)
    have := e1 x hx
    have := e2 y hy
    omega
  · rcases List.mem_append.mp hi with z | z
    · rcases List.mem_append.mp z with z | z
      · have := e1 i (List.mem_append_left _ z)
        have := gt.ix
        omega
      · have := e2 i z
        omega
    · have := e1 i (List.mem_append_right _ z)
      omega
theorem GIs.app {f b : Int} {lo mid hi d : Nat} {a : List Tr} {t : Tr} (g : GIs f b lo mid d a) (gt : GI f b mid hi d t) (hs : t.size + mid ≤ hi) (hm : lo ≤ mid) : GIs f b lo hi d (a ++ [t]) := by
  have := GIs.ins (a := a) (c := []) (by rw [List.append_nil]; exact g) gt hs hm
  rw [List.append_nil] at this
  exact this
theorem GI.nm {f b : Int} {lo hi d : Nat} {t : Tr} (g : GI f b lo hi d t) : ∀ x ∈ t.nms, nameOk x := fun x hx => by
  obtain ⟨is, a, _, _⟩ := g.ix
  rw [a] at hx
  obtain ⟨i, _, rfl⟩ := List.mem_map.mp hx
  exact nmL_ok f b i
theorem GI.nd {f b : Int} {lo hi d : Nat} {t : Tr} (hb : byOk b) (g : GI f b lo hi d t) (h : hi ≤ lo + 26) : t.nms.Nodup := by
  obtain ⟨is, a, n, e⟩ := g.ix
  rw [a, List.Nodup, List.pairwise_map]
  refine List.Pairwise.imp_of_mem ?_ n
  intro x y hx hy ne z
  have h1 := e x hx
  have h2 := e y hy
  rcases Nat.lt_or_gt_of_ne ne with l | l
  · exact nmL_ne hb l (by omega) z
  · exact nmL_ne hb l (by omega) z.symm
theorem GI.ln {f b : Int} {lo hi d : Nat} {t : Tr} (g : GI f b lo hi d t) : ∀ x ∈ t.nms, x.length = 1 := fun x hx => by
  obtain ⟨is, a, _, _⟩ := g.ix
  rw [a] at hx
  obtain ⟨i, _, rfl⟩ := List.mem_map.mp hx
  rfl
/-! ### drawing, and names -/
def spHand (K : PySem.W.Frag) : Sp := fun vs H Q _ => ∃ (a : Addr) (ns : List Int) (k : Nat), vs = [.ref a, .int k] ∧ SqL K H a (ns.map V.int) ∧ ns.length ≤ 63 ∧ k ≤ 63 ∧ ∀ h H', Ex H H' → H h = none → Bx H' h 0 → Q (.ref h) H'
def spTake : Sp := fun vs H Q _ => ∃ (h : Addr) (m : Int) (C : Nat), vs = [.ref h, .int m] ∧ Bx H h C ∧ C ≤ 1000000 ∧ 1 ≤ m ∧ m ≤ 1000000000 ∧ ∀ (r : Int) H', 0 ≤ r → r < m → Bx H' h (C + 1) → Kp h h H H' → Q (.int r) H'
def spPickB : Sp := fun vs H Q _ => ∃ (h a : Addr) (xs : List V) (C : Nat), vs = [.ref h, .ref a] ∧ Bx H h C ∧ C ≤ 1000000 ∧ H a = some (.lst xs) ∧ a ≠ h ∧ 1 ≤ xs.length ∧ xs.length ≤ 1000 ∧ ∀ v H', v ∈ xs → Bx H' h (C + 1) → Kp h h H H' → Q v H'
def spNm : Sp := fun vs H Q _ => ∃ (bx : Addr) (k : Nat) (f b : Int), vs = [.ref bx] ∧ NB H bx k f b ∧ k ≤ 1000 ∧ 0 ≤ f ∧ f ≤ 1000 ∧ 0 ≤ b ∧ b ≤ 1000 ∧ ∀ H', NB H' bx (k + 1) f b → Kp bx bx H H' → Q (.str (nmL f b (k + 1))) H'
def spLot : Sp := fun vs H Q _ => ∃ (bx : Addr) (k m : Nat) (c f b : Int), vs = [.ref bx, .int (m : Int), .int c] ∧ NB H bx k f b ∧ k ≤ 100 ∧ 0 ≤ f ∧ f ≤ 1000 ∧ 0 ≤ b ∧ b ≤ 1000 ∧ 1 ≤ m ∧ m ≤ 10 ∧ 1 ≤ c ∧ c ≤ 1000 ∧ ∀ v n d ms H', NB H' bx (k + 1 + m) f b → Kp bx bx H H' → TrV H' v (.grp n d ms) → GI f b k (k + 1 + m) 1 (.grp n d ms) → (Tr.grp n d ms).size = m + 1 → (n = nmL f b (k + 1) ∧ gns ms = []) → Q v H'
theorem q_dputP {td ty tv : TE} {tz : TS} {D : Ends} {σ : L2.St} {H : Hp} (h : tv σ H fun v H1 => td σ H1 fun x H2 => ty σ H2 fun y H3 => ∃ a H4, x = .ref a ∧ DPut H3 a y v H4 ∧ tz D σ H4) : tSeq (sDPut td ty tv) tz D σ H := h
theorem nosl {i : Expr} (h : ∀ ov iv, subscripted i false ov iv = operate [ov, iv] (getItem ov iv)) : NoSl i := h
theorem alpha_at : ∀ i : Fin 26, ("abcdefghijklmnopqrstuvwxyz" : Str).cps.toList[i.val]? = some (97 + i.val) := by decide +kernel
section
variable {P : Program} {w : World} {K : PySem.W.Frag} {mg : Str → Option Value} {base : Heap}
theorem ok__law_hand (T : Tp w K mg) : FnOk P w K mg base CX0 1 T.f__law_hand T.d__law_hand ["_law_script", "_law_k"] (spHand K) := by
  refine T.F__law_hand.ok sc__law_hand (fun vs H Q E h => ?_) (fun cdv A outer s H vs Q E hr h => ?_)
  · obtain ⟨a, ns, k, rfl, _⟩ := h
    rfl
  obtain ⟨a, ns, k, rfl, hS, h63, hk, q⟩ := h
  refine ⟨_, (pss_cons (ps_set (i := 2) sc__law_hand.nd rfl (Or.inl rfl) pe_int)
  (pss_cons (ps_if (pt_cmpR op_lt (pv 1) (pe_callB (lenK (K := K) rfl) rfl T.z_len PySem.boot_len (pa_cons (pv 0) pa_nil (star1 rfl)) (by decide) (by decide) (star1 rfl) (starAll rfl)) (nomark _)) (pss_one (ps_set (i := 2) sc__law_hand.nd rfl (Or.inl rfl) (pe_ix ix_list (pv 0) (pv 1) (fun _ _ => rfl)))) pss_nil)
  (pss_cons (ps_set (i := 3) sc__law_hand.nd rfl (Or.inl rfl) (pe_op op_mod (pe_op op_mul (pe_op op_add (pe_op op_add (pe_op op_mod (pv 2) pe_int) (pe_op op_mul (pe_op op_mul pe_int (pv 1)) (pv 1))) pe_int) pe_int) pe_int))
  (pss_one (ps_ret (pe_lst (pa_cons (pe_op op_mul (pe_callB call_abs rfl T.z_abs (by decide +kernel) (pa_cons (pv 2) pa_nil (star1 rfl)) (by decide) (by decide) (star1 rfl) (starAll rfl)) (pe_callTy call_int1 rfl T.z_int (by decide +kernel) (pa_cons (pe_cmpR op_ge (pe_callB call_abs rfl T.z_abs (by decide +kernel) (pa_cons (pv 2) pa_nil (star1 rfl)) (by decide) (by decide) (star1 rfl) (starAll rfl)) (pe_op op_pow pe_int pe_int) (nomark _)) pa_nil (star1 rfl)) (by decide) (by decide) (star1 rfl) (starAll rfl))) (pa_cons (pv 3) (pa_cons pe_int pa_nil (star1 rfl)) (star1 rfl)) (star1 rfl)))))))), ?_⟩
  refine q_asg (v := .int 0) ev_c fun H1 e1 => ?_
  refine q_ifAsg (v := .int (ns.getD k 0)) (et_test (ev_I0 (ev_var rfl) (ev_len (ev_var rfl) (ex_l e1 hS)))) (fun hb => ?_) (fun hb => ?_) fun H2 e2 => ?_
  · have hb2 : k < ns.length := by simpa using hb
    refine ev_op (ev_var rfl) (ev_var rfl) (rv_ixL (v := .int (ns.getD k 0)) (ex_l e1 hS) ?_)
    unfold atI ixN
    rw [if_pos (by omega), if_pos (by rw [List.length_map]; omega)]
    simp [List.getD_eq_getElem?_getD, hb2]
  · have hb2 : ¬ k < ns.length := by simpa using hb
    have e : ns.getD k 0 = 0 := by
      rw [List.getD_eq_getElem?_getD, List.getElem?_eq_none (by omega)]
      rfl
    rw [e]
    rfl
  generalize ns.getD k 0 = c
  have ab : ∀ {H' : Hp} {σ : L2.St}, σ[2]? = some (some (.int c)) → Ev (tCB (fun xs H Q => ∃ i, xs = [.int i] ∧ Q (.int (if i < 0 then -i else i)) H) (tCons (tVar 2) tNil)) σ H' (.int (if c < 0 then -c else c)) := fun h => ev_abs (ev_var h)
  have abs0 : 0 ≤ (if c < 0 then -c else c) := by split <;> omega
  generalize (if c < 0 then -c else c) = b at ab abs0
  have m0 : 0 ≤ c % 2305843009213693951 := Int.emod_nonneg _ (by decide)
  have m1 : c % 2305843009213693951 < 2305843009213693951 := Int.emod_lt_of_pos _ (by decide)
  have pw : ∀ {H' : Hp} {σ : L2.St}, Ev (tOp (rI CPow fun i j => .int (i ^ j.toNat)) (tC (.int 10)) (tC (.int 18))) σ H' (.int (10 ^ 18)) := fun H3 e Q q => ⟨10, 18, rfl, rfl, ⟨by decide, by decide, by decide⟩, q H3 (Ex.refl H3)⟩
  refine q_asg (v := .int ((c % 2305843009213693951 + 6143 * k * k + 19) * 48271 % 2305843009213693921)) (ev_I (by decide) (ev_I (C := CMul) (g := fun i j => .int (i * j)) (Or.inr (by decide)) (ev_I0 (ev_I0 (ev_I (by decide) (ev_var rfl) ev_c) (ev_I (C := CMul) (g := fun i j => .int (i * j)) (Or.inr ⟨by omega, by omega⟩) (ev_I (C := CMul) (g := fun i j => .int (i * j)) (Or.inl (by decide)) ev_c (ev_var rfl)) (ev_var rfl))) ev_c) ev_c) ev_c) fun H2' e2' => ?_
  have x0 : 0 ≤ (c % 2305843009213693951 + 6143 * k * k + 19) * 48271 % 2305843009213693921 := Int.emod_nonneg _ (by decide)
  have x1 : (c % 2305843009213693951 + 6143 * k * k + 19) * 48271 % 2305843009213693921 < 2305843009213693921 := Int.emod_lt_of_pos _ (by decide)
  generalize (c % 2305843009213693951 + 6143 * k * k + 19) * 48271 % 2305843009213693921 = mx at x0 x1
  refine s_retL (xs := [.int (b * (if decide (b ≥ 10 ^ 18) then 1 else 0)), .int mx, .int 0]) ?_ fun p H3 hp e3 h3 => ?_
  · refine fun H4 e4 Q' q' => (ea_cons (ev_I (C := CMul) (g := fun i j => .int (i * j)) ?_ (ab rfl) (ev_intB (b := decide (b ≥ 10 ^ 18)) (ev_is (ev_I0 (ab rfl) pw) rfl))) (ea_cons (ev_var rfl) (ea_cons ev_c ea_nil))) H4 (Ex.refl H4) _ fun H5 e5 => ⟨(by show 3 ≤ sizeLine; decide), fun p hp => q' p _ (fresh_back e5 hp) (e5.trans (Ex.new hp)) upd_same⟩
    refine Or.inr ?_
    split <;> decide
  · refine q p H3 (((e1.trans e2).trans e2').trans e3) (fresh_back ((e1.trans e2).trans e2') hp) ⟨_, _, _, h3, ?_, x0, ?_, by decide, by decide⟩
    · exact Int.mul_nonneg abs0 (by split <;> decide)
    · omega
theorem ok__law_take (T : Tp w K mg) : FnOk P w K mg base CX0 1 T.f__law_take T.d__law_take ["_law_hand_here", "_law_many"] spTake := by
  refine T.F__law_take.ok sc__law_take (fun vs H Q E h => ?_) (fun cdv A outer s H vs Q E hr h => ?_)
  · obtain ⟨h, m, C, rfl, _⟩ := h
    rfl
  obtain ⟨h, m, C, rfl, ⟨n, m', c, A0⟩, hC, m1, m2, q⟩ := h
  refine ⟨_, (pss_cons (ps_if (pt_cmpR op_gt (pe_ix ix_list (pv 0) pe_int (fun _ _ => rfl)) pe_int (nomark _)) (pss_cons (ps_set (i := 3) sc__law_take.nd rfl (Or.inl rfl) (pe_op op_mod (pe_ix ix_list (pv 0) pe_int (fun _ _ => rfl)) (pv 1)))
  (pss_cons (ps_asg (pe_op op_fdiv (pe_ix ix_list (pv 0) pe_int (fun _ _ => rfl)) (pv 1)) (pg_sub (pv 0) pe_int set_list))
  (pss_one (ps_ret (pv 3))))) pss_nil)
  (pss_cons (ps_asg (pe_op op_add (pe_ix ix_list (pv 0) pe_int (fun _ _ => rfl)) pe_int) (pg_sub (pv 0) pe_int set_list))
  (pss_cons (ps_set (i := 2) sc__law_take.nd rfl (Or.inl rfl) (pe_op op_mod (pe_op op_mul (pe_op op_add (pe_op op_add (pe_ix ix_list (pv 0) pe_int (fun _ _ => rfl)) (pe_op op_mul (pe_op op_mul pe_int (pe_ix ix_list (pv 0) pe_int (fun _ _ => rfl))) (pe_ix ix_list (pv 0) pe_int (fun _ _ => rfl)))) pe_int) pe_int) pe_int))
  (pss_cons (ps_set (i := 2) sc__law_take.nd rfl (Or.inl rfl) (pe_op op_mod (pe_op op_mul (pv 2) (pe_op op_add (pe_op op_mod (pv 2) pe_int) (pe_op op_mul pe_int (pe_ix ix_list (pv 0) pe_int (fun _ _ => rfl))))) pe_int))
  (pss_one (ps_ret (pe_op op_mod (pe_op op_add (pe_op op_fdiv (pv 2) pe_int) (pe_op op_fdiv (pv 2) pe_int)) (pv 1)))))))), ?_⟩
  have at0 : ∀ (σ' : L2.St) {H' : Hp} {n m c : Int} {C : Nat}, σ'[0]? = some (some (.ref h)) → BxAt H' h n m c C → Ev (tOp (rIxL K) (tVar 0) (tC (.int 0))) σ' H' (.int n) := fun σ' H' n m c C e A => ev_op (ev_var e) ev_c (rv_ixL (sq_of A.hh) rfl)
  have at1 : ∀ (σ' : L2.St) {H' : Hp} {n m c : Int} {C : Nat}, σ'[0]? = some (some (.ref h)) → BxAt H' h n m c C → Ev (tOp (rIxL K) (tVar 0) (tC (.int 1))) σ' H' (.int m) := fun σ' H' n m c C e A => ev_op (ev_var e) ev_c (rv_ixL (sq_of A.hh) rfl)
  have at2 : ∀ (σ' : L2.St) {H' : Hp} {n m c : Int} {C : Nat}, σ'[0]? = some (some (.ref h)) → BxAt H' h n m c C → Ev (tOp (rIxL K) (tVar 0) (tC (.int 2))) σ' H' (.int c) := fun σ' H' n m c C e A => ev_op (ev_var e) ev_c (rv_ixL (sq_of A.hh) rfl)
  refine q_when (et_test (ev_I0 (at0 _ rfl A0) ev_c)) (fun hb H1 e1 => ?_) (fun hb H1 e1 => ?_)
  · have A1 := A0.ex e1
    refine q_asg (v := .int (n % m)) (ev_I (by show (0 : Int) < m; omega) (at0 _ rfl A1) (ev_var rfl)) fun H2 e2 => ?_
    have A2 := A1.ex e2
    refine q_setL (j := 0) (v := .int (n / m)) A2.hh (ev_I (C := CDiv) ⟨by omega, by omega⟩ (at0 _ rfl A2) (ev_var rfl)) (ev_var rfl) ev_c (by simp) fun H3 e3 => ?_
    have A3 := A2.ex e3
    refine s_ret (v := .int (n % m)) (ev_var rfl) fun H4 e4 => ?_
    have B : BxAt (upd H3 h (.lst ([V.int n, .int m', .int c].set 0 (.int (n / m))))) h (n / m) m' c (C + 1) := ⟨upd_same, Int.ediv_nonneg A3.n0 (by omega), A3.m0, A3.m1, A3.c0, by have := A3.c1; omega⟩
    exact q _ H4 (Int.emod_nonneg _ (by omega)) (Int.emod_lt_of_pos _ (by omega)) ⟨_, _, _, B.ex e4⟩ ((Kp.put (Kp.ex ((e1.trans e2).trans e3)) (Or.inl rfl)).trans (Kp.ex e4))
  · have A1 := A0.ex e1
    refine q_setL (j := 2) (v := .int (c + 1)) A1.hh (ev_I0 (at2 _ rfl A1) ev_c) (ev_var rfl) ev_c (by simp) fun H2 e2 => ?_
    have A2 := A1.ex e2
    have k2 : Kp h h H (upd H2 h (.lst ([V.int n, .int m', .int c].set 2 (.int (c + 1))))) := Kp.put (Kp.ex (e1.trans e2)) (Or.inl rfl)
    have B : BxAt (upd H2 h (.lst ([V.int n, .int m', .int c].set 2 (.int (c + 1))))) h n m' (c + 1) (C + 1) := ⟨upd_same, A2.n0, A2.m0, A2.m1, by have := A2.c0; omega, by have := A2.c1; omega⟩
    generalize upd H2 h (.lst ([V.int n, .int m', .int c].set 2 (.int (c + 1)))) = H3 at B k2
    have c1 := B.c1
    have c0 := B.c0
    refine q_asg (v := .int ((m' + 104729 * (c + 1) * (c + 1) + 13) * 69621 % 2305843009213693921)) (ev_I (by decide) (ev_I (C := CMul) (g := fun i j => .int (i * j)) (Or.inr (by decide)) (ev_I0 (ev_I0 (at1 _ rfl B) (ev_I (C := CMul) (g := fun i j => .int (i * j)) (Or.inr ⟨by omega, by omega⟩) (ev_I (C := CMul) (g := fun i j => .int (i * j)) (Or.inl (by decide)) ev_c (at2 _ rfl B)) (at2 _ rfl B))) ev_c) ev_c) ev_c) fun H4 e4 => ?_
    have B4 := B.ex e4
    have x0 : 0 ≤ (m' + 104729 * (c + 1) * (c + 1) + 13) * 69621 % 2305843009213693921 := Int.emod_nonneg _ (by decide)
    have x1 : (m' + 104729 * (c + 1) * (c + 1) + 13) * 69621 % 2305843009213693921 < 2305843009213693921 := Int.emod_lt_of_pos _ (by decide)
    generalize (m' + 104729 * (c + 1) * (c + 1) + 13) * 69621 % 2305843009213693921 = mx at x0 x1
    refine q_asg (v := .int (mx * (mx % 999983 + 90001 * (c + 1)) % 2305843009213693907)) (ev_I (by decide) (ev_I (C := CMul) (g := fun i j => .int (i * j)) (Or.inl ⟨by omega, by omega⟩) (ev_var rfl) (ev_I0 (ev_I (by decide) (ev_var rfl) ev_c) (ev_I (C := CMul) (g := fun i j => .int (i * j)) (Or.inl (by decide)) ev_c (at2 _ rfl B4)))) ev_c) fun H5 e5 => ?_
    have B5 := B4.ex e5
    refine s_ret (ev_I (by show (0 : Int) < m; omega) (ev_I0 (ev_I (C := CDiv) (by constructor <;> decide) (ev_var rfl) ev_c) (ev_I (C := CDiv) (by constructor <;> decide) (ev_var rfl) ev_c)) (ev_var rfl)) fun H6 e6 => ?_
    exact q _ H6 (Int.emod_nonneg _ (by omega)) (Int.emod_lt_of_pos _ (by omega)) ⟨_, _, _, B5.ex e6⟩ (k2.trans (Kp.ex ((e4.trans e5).trans e6)))
theorem ok__law_pick (T : Tp w K mg) : FnOk P w K mg base CX0 2 T.f__law_pick T.d__law_pick ["_law_hand_here", "_law_some"] spPickB := by
  refine T.F__law_pick.ok sc__law_pick (fun vs H Q E h => ?_) (fun cdv A outer s H vs Q E hr h => ?_)
  · obtain ⟨h, a, xs, C, rfl, _⟩ := h
    rfl
  refine ⟨_, (pss_one (ps_ret (pe_ix (ixLK (K := K) rfl) (pv 1) (pe_call (ok__law_take T) (hr.mono (by decide)) rfl T.m__law_take T.F__law_take.kp (b__law_take T) .nil pass0 (pa_cons (pv 0) (pa_cons (pe_callB (lenK (K := K) rfl) rfl T.z_len PySem.boot_len (pa_cons (pv 1) pa_nil (star1 rfl)) (by decide) (by decide) (star1 rfl) (starAll rfl)) pa_nil (star1 rfl)) (star1 rfl)) (by decide) (star1 rfl) (starAll rfl)) (fun _ _ => rfl)))), ?_⟩
  obtain ⟨h, a, xs, C, rfl, A0, hC, ha, n1, l1, l2, q⟩ := h
  refine ⟨_, rfl, _, rfl, _, rfl, a, xs, rfl, Or.inl (sq_of ha), h, (xs.length : Int), C, rfl, A0, hC, by omega, by omega, fun r H' r0 r1 A1 k1 => ?_⟩
  have hi : r.toNat < xs.length := by omega
  refine ⟨a, xs, r, xs[r.toNat], rfl, rfl, sq_of (k1 a _ n1 n1 ha), ?_, q _ H' (List.getElem_mem hi) A1 k1⟩
  unfold atI ixN
  rw [if_pos r0, if_pos r1]
  simp [hi]
theorem ok__law_name (T : Tp w K mg) : FnOk P w K mg base CX0 1 T.f__law_name T.d__law_name ["_law_box"] spNm := by
  refine T.F__law_name.ok sc__law_name (fun vs H Q E h => ?_) (fun cdv A outer s H vs Q E hr h => ?_)
  · obtain ⟨bx, k, f, b, rfl, _⟩ := h
    rfl
  obtain ⟨bx, k, f, b, rfl, n0, hk, f0, f1, b0, b1, q⟩ := h
  refine ⟨_, (pss_cons (ps_dput (hu_of hr) (pv 0) pe_str (pe_op op_add (pe_dget (hu_of hr) (pv 0) pe_str (nosl fun _ _ => rfl)) pe_int) rfl)
  (pss_cons (ps_set (i := 1) sc__law_name.nd rfl (Or.inl rfl) pe_str)
  (pss_one (ps_ret (pe_ix ix_str (pv 1) (pe_op op_mod (pe_op op_add (pe_dget (hu_of hr) (pv 0) pe_str (nosl fun _ _ => rfl)) (pe_op op_mul (pe_dget (hu_of hr) (pv 0) pe_str (nosl fun _ _ => rfl)) (pe_dget (hu_of hr) (pv 0) pe_str (nosl fun _ _ => rfl)))) pe_int) (fun _ _ => rfl)))))), ?_⟩
  refine q_dputP ?_
  refine ⟨_, rfl, bx, .int (k : Int), rfl, DGet.k (k := Sum.inr (Str.ofString "next")) n0, (k : Int), 1, rfl, rfl, ?_⟩
  refine ⟨_, rfl, bx, _, rfl, DPut.k (k := Sum.inr (Str.ofString "next")) n0 (sz_lt (by show 3 < 100000; decide)), ?_⟩
  have e1 : putK (κ := L2.Key) [(Sum.inr (Str.ofString "next"), V.int (k : Int)), (Sum.inr (Str.ofString "first"), V.int f), (Sum.inr (Str.ofString "by"), V.int b)] (Sum.inr (Str.ofString "next")) (V.int ((k : Int) + 1)) = [(Sum.inr (Str.ofString "next"), V.int ((k + 1 : Nat) : Int)), (Sum.inr (Str.ofString "first"), V.int f), (Sum.inr (Str.ofString "by"), V.int b)] := by
    have d1 : (Sum.inr (Str.ofString "first") : L2.Key) ≠ Sum.inr (Str.ofString "next") := by decide +kernel
    have d2 : (Sum.inr (Str.ofString "by") : L2.Key) ≠ Sum.inr (Str.ofString "next") := by decide +kernel
    unfold putK
    rw [if_pos (by simp), List.map_cons, List.map_cons, List.map_cons, List.map_nil, if_pos rfl, if_neg d1, if_neg d2]
    rfl
  rw [e1]
  have n1 : NB (upd H bx (.dK [(Sum.inr (Str.ofString "next"), V.int ((k + 1 : Nat) : Int)), (Sum.inr (Str.ofString "first"), V.int f), (Sum.inr (Str.ofString "by"), V.int b)])) bx (k + 1) f b := upd_same
  have k1 : Kp bx bx H (upd H bx (.dK [(Sum.inr (Str.ofString "next"), V.int ((k + 1 : Nat) : Int)), (Sum.inr (Str.ofString "first"), V.int f), (Sum.inr (Str.ofString "by"), V.int b)])) := Kp.put (Kp.refl _ _ H) (Or.inl rfl)
  generalize upd H bx (.dK [(Sum.inr (Str.ofString "next"), V.int ((k + 1 : Nat) : Int)), (Sum.inr (Str.ofString "first"), V.int f), (Sum.inr (Str.ofString "by"), V.int b)]) = H1 at n1 k1
  refine q_asg (v := .str "abcdefghijklmnopqrstuvwxyz") ev_c fun H2 e2 => ?_
  have n2 := n1.ex e2
  refine s_retP ?_
  refine ⟨_, rfl, _, rfl, bx, .int f, rfl, DGet.k (k := Sum.inr (Str.ofString "first")) n2, _, rfl, bx, .int b, rfl, DGet.k (k := Sum.inr (Str.ofString "by")) n2, _, rfl, bx, .int ((k + 1 : Nat) : Int), rfl, DGet.k (k := Sum.inr (Str.ofString "next")) n2, b, ((k + 1 : Nat) : Int), rfl, rfl, Or.inl ⟨by omega, by omega⟩, f, b * ((k + 1 : Nat) : Int), rfl, rfl, f + b * ((k + 1 : Nat) : Int), 26, rfl, rfl, (show (0 : Int) < 26 by decide), ?_⟩
  have r0 : 0 ≤ (f + b * ((k + 1 : Nat) : Int)) % 26 := Int.emod_nonneg _ (by decide)
  have r1 : (f + b * ((k + 1 : Nat) : Int)) % 26 < 26 := Int.emod_lt_of_pos _ (by decide)
  refine ⟨_, _, 97 + ((f + b * ((k + 1 : Nat) : Int)) % 26).toNat, rfl, rfl, (by decide +kernel), ?_, ?_⟩
  · generalize (f + b * ((k + 1 : Nat) : Int)) % 26 = r at r0 r1
    have := alpha_at ⟨r.toNat, by omega⟩
    unfold atI ixN
    have hl : ("abcdefghijklmnopqrstuvwxyz" : Str).cps.toList.length = 26 := by decide +kernel
    rw [if_pos r0, if_pos (by rw [hl]; omega)]
    exact this
  · exact q H2 n2 (k1.trans (Kp.ex e2))
theorem ok__law_lot (T : Tp w K mg) : FnOk P w K mg base CX0 2 T.f__law_lot T.d__law_lot ["_law_box", "_law_many", "_law_bound"] spLot := by
  refine T.F__law_lot.ok sc__law_lot (fun vs H Q E h => ?_) (fun cdv A outer s H vs Q E hr h => ?_)
  · obtain ⟨bx, k, m, c, f, b, rfl, _⟩ := h
    rfl
  obtain ⟨bx, k, m, c, f, b, rfl, n0, hk, f0, f1, b0, b1, m1, m2, c1, c2, q⟩ := h
  refine ⟨_, (pss_cons (ps_set (i := 3) sc__law_lot.nd rfl (Or.inl rfl) (pe_call (ok__law_name T) (hr.mono (by decide)) rfl T.m__law_name T.F__law_name.kp (b__law_name T) .nil pass0 (pa_cons (pv 0) pa_nil (star1 rfl)) (by decide) (star1 rfl) (starAll rfl)))
  (pss_one (ps_ret (pe_tup (pa_cons (pv 3) (pa_cons (pv 2) (pa_cons (pe_callTy call_tuple_of rfl T.z_tuple (by decide +kernel) (pa_cons (pe_lc (own := [("_law_k", 4)]) (g := gName 4) (tt := tYes) rfl sc__law_lot.nd (pi_range1 rfl T.z_range (pa_cons (pv 1) pa_nil (star1 rfl))) (blkOk_by (N := N__law_lot) (sc := defScope s__law_lot) (by decide +kernel)) (fun _ _ _ _ _ => (pg_name (i := 4) sc__law_lot.nd rfl (Or.inl rfl))) (fun _ _ _ _ _ => pts_nil) (fun _ _ _ _ _ => (pe_call (ok__law_name T) (hr.mono (by decide)) rfl T.m__law_name T.F__law_name.kp (b__law_name T) .nil pass0 (pa_cons (pv 0) pa_nil (star1 rfl)) (by decide) (star1 rfl) (starAll rfl)))) pa_nil (star1 rfl)) (by decide) (by decide) (star1 rfl) (starAll rfl)) pa_nil (star1 rfl)) (star1 rfl)) (star1 rfl)))))), ?_⟩
  refine q_asgP ?_
  refine ⟨_, rfl, bx, k, f, b, rfl, n0, by omega, f0, f1, b0, b1, fun H1 n1 k1 => ?_⟩
  refine s_retP ?_
  refine ⟨_, rfl, _, rfl, _, rfl, (m : Int), rfl, by omega, by omega, fun D hD => ?_⟩
  have dbx : D ≠ bx := fun z => by
    subst z
    rw [NB] at n1
    rw [n1] at hD
    cases hD
  have HD : H D = none := by
    cases z : H D with
    | none => rfl
    | some o => rw [k1 D o dbx dbx z] at hD; cases hD
  refine lc_range (lo := 0) (n := (m : Int).toNat) (fun i H' => NB H' bx (k + 1 + i) f b ∧ Kp bx bx H H' ∧ H' D = some (.lst ((List.range i).map fun j => V.str (nmL f b (k + 2 + j))))) ?_ ?_ ?_
  · exact ⟨n1.ex (Ex.new hD), k1.trans (Kp.ex (Ex.new hD)), upd_same⟩
  · intro i H2 hi hP
    obtain ⟨n2, k2, hacc⟩ := hP
    refine ⟨rfl, tYesQ ?_⟩
    refine ⟨_, rfl, bx, k + 1 + i, f, b, rfl, n2, by omega, f0, f1, b0, b1, fun H3 n3 k3 => ?_⟩
    have hacc3 := k3 _ _ dbx dbx hacc
    refine ⟨_, hacc3, sz_lt (by rw [List.length_map, List.length_range]; omega), ?_, ?_, ?_⟩
    · show upd H3 D _ bx = _
      rw [upd_ne (Ne.symm dbx)]
      exact n3
    · intro a o u1 u2 ha
      have : a ≠ D := fun z => by
        subst z
        rw [HD] at ha
        cases ha
      rw [upd_ne this]
      exact k3 a o u1 u2 (k2 a o u1 u2 ha)
    · rw [upd_same, List.range_succ, List.map_append]
      have : k + 2 + i = k + 1 + i + 1 := by omega
      simp [this]
  intro H2 hP
  obtain ⟨n2, k2, hacc⟩ := hP
  have em : (m : Int).toNat = m := by omega
  rw [em] at n2 hacc
  refine ⟨D, _, rfl, Or.inl ⟨sq_of hacc, fun t ht => ⟨(by show 3 ≤ sizeLine; decide), fun g hg => ?_⟩⟩⟩
  have e3 := (Ex.new (o := .tup ((List.range m).map fun j => V.str (nmL f b (k + 2 + j)))) ht)
  have e4 := Ex.new (o := .tup [.str (nmL f b (k + 1)), .int c, .ref t]) hg
  have hm0 : (List.range m).map (fun j => Tr.hand (nmL f b (k + 2 + j))) ≠ [] := by
    intro z
    have := congrArg List.length z
    simp at this
    omega
  have szh : ∀ l : List Nat, sizes (l.map fun j => Tr.hand (nmL f b (k + 2 + j))) = l.length := by
    intro l
    induction l with
    | nil => rfl
    | cons x l ih => simp only [List.map_cons, sizes, Tr.size, ih, List.length_cons]; omega
  have gnh : ∀ l : List Nat, gns (l.map fun j => Tr.hand (nmL f b (k + 2 + j))) = [] := by
    intro l
    induction l with
    | nil => rfl
    | cons x l ih => simp only [List.map_cons, gns, Tr.gn, ih]; rfl
  have tvs : ∀ (H' : Hp) (l : List Nat), TrVs H' (l.map fun j => V.str (nmL f b (k + 2 + j))) (l.map fun j => Tr.hand (nmL f b (k + 2 + j))) := by
    intro H' l
    induction l with
    | nil => exact .nil
    | cons x l ih => exact .cons (.hand _) ih
  refine q (.ref g) (nmL f b (k + 1)) c ((List.range m).map fun j => Tr.hand (nmL f b (k + 2 + j))) _ (n2.ex (e3.trans e4)) (k2.trans (Kp.ex (e3.trans e4))) (.grp upd_same (e4 _ _ upd_same) (tvs _ _)) (GIs.grp (lo := k + 1) (d := 0) ?_ hm0 c1 (by omega) (by omega) (by omega) (by omega) (Nat.le_refl _)) ?_ ⟨rfl, gnh _⟩
  · have go : ∀ m : Nat, GIs f b (k + 1) (k + 1 + m) 0 ((List.range m).map fun j => Tr.hand (nmL f b (k + 2 + j))) := by
      intro m
      induction m with
      | zero => exact GIs.nil
      | succ m ih =>
        rw [List.range_succ, List.map_append]
        exact GIs.app ih (GI.hand (by omega) (by omega)) (by simp only [Tr.size]; omega) (by omega)
    exact go m
  · simp only [Tr.size]
    rw [szh, List.length_range]
end
/-! ### lists of members, as they are made -/
theorem q_ifM {t : TT} {tu tw tz : TS} {D : Ends} {σ : L2.St} {H : Hp} (M : L2.St → Hp → Prop) (k : ∀ σ' H', M σ' H' → tz D σ' H') (h : ∀ R : L2.St → Hp → Prop, (∀ σ' H', M σ' H' → R σ' H') → t σ H fun c H1 => if c = true then tu { D with nx := R } σ H1 else tw { D with nx := R } σ H1) : tSeq (tIfS t tu tw) tz D σ H := h (tz D) k
def LI (h bx : Addr) (f b : Int) (C k0 w : Nat) (H1 : Hp) (D : Addr) (i : Nat) (H' : Hp) : Prop := ∃ xs ts k', Bx H' h (C + i) ∧ NB H' bx k' f b ∧ Kp h bx H1 H' ∧ H' D = some (.lst xs) ∧ TrVs H' xs ts ∧ GIs f b k0 k' 1 ts ∧ ts.length = i ∧ k0 ≤ k' ∧ k' ≤ k0 + w * i
section
variable {h bx D : Addr} {f b : Int} {C k0 w i : Nat} {H1 H' H'' : Hp}
theorem li_0 (hD : H1 D = none) (A : Bx H1 h C) (n0 : NB H1 bx k0 f b) : LI h bx f b C k0 w H1 D 0 (upd H1 D (.lst [])) := ⟨[], [], k0, A.new hD, n0.ex (Ex.new hD), Kp.ex (Ex.new hD), upd_same, .nil, GIs.nil, rfl, Nat.le_refl _, by omega⟩
theorem li_more {xs : List V} {ts : List Tr} {k' k'' : Nat} {v : V} {t : Tr} (hD : H1 D = none) (dh : D ≠ h) (db : D ≠ bx) (A : Bx H' h (C + i)) (n' : NB H' bx k' f b) (kp : Kp h bx H1 H') (tv : TrVs H' xs ts) (g : GIs f b k0 k' 1 ts) (hl : ts.length = i) (h0 : k0 ≤ k') (hw : k' ≤ k0 + w * i)
    (A2 : Bx H'' h (C + i + 1)) (n2 : NB H'' bx k'' f b) (kp2 : Kp h bx H' H'') (tv2 : TrV H'' v t) (g2 : GI f b k' k'' 1 t) (hs : t.size + k' ≤ k'') (hw2 : k'' ≤ k' + w) (hacc : H'' D = some (.lst xs)) : LI h bx f b C k0 w H1 D (i + 1) (upd H'' D (.lst (xs ++ [v]))) := by
  have tk2 : TK H'' (upd H'' D (.lst (xs ++ [v]))) := TK.lst hacc
  refine ⟨xs ++ [v], ts ++ [t], k'', ?_, ?_, ?_, upd_same, trvs_app (trvs_tk ((tk_kp2 A n' kp2).trans tk2) _ _ tv) (.cons (trv_tk tk2 _ _ tv2) .nil), GIs.app g g2 hs h0, by rw [List.length_append]; simp [hl], by omega, ?_⟩
  · obtain ⟨n, m, c, B⟩ := A2
    exact ⟨n, m, c, by rw [upd_ne (Ne.symm dh)]; exact B.hh, B.n0, B.m0, B.m1, B.c0, B.c1⟩
  · show upd H'' D _ bx = _
    rw [upd_ne (Ne.symm db)]
    exact n2
  · intro a o u1 u2 ha
    have : a ≠ D := fun z => by
      subst z
      rw [hD] at ha
      cases ha
    rw [upd_ne this]
    exact kp2 a o u1 u2 (kp a o u1 u2 ha)
  · have := Nat.mul_succ w i
    show k'' ≤ k0 + w * (i + 1)
    rw [Nat.mul_succ]
    omega
end
def spUpper : Sp := fun vs H Q _ => ∃ (h bx : Addr) (ev : Bool) (C k : Nat) (f b : Int), vs = [.ref h, .ref bx, .bl ev] ∧ Bx H h C ∧ C ≤ 100000 ∧ NB H bx k f b ∧ k ≤ 50 ∧ 0 ≤ f ∧ f ≤ 1000 ∧ 0 ≤ b ∧ b ≤ 1000 ∧ ∀ v t H' k', Bx H' h (C + 20) → NB H' bx k' f b → Kp h bx H H' → TrV H' v t → GI f b k k' 2 t → t.size + k ≤ k' → k' ≤ k + 10 → Q v H'
section
variable {P : Program} {w : World} {K : PySem.W.Frag} {mg : Str → Option Value} {base : Heap}
theorem take_at {h : Addr} {m : Int} {C i : Nat} {σ : L2.St} {H : Hp} {Q : VK} (hσ : σ[i]? = some (some (.ref h))) (A : Bx H h C) (hC : C ≤ 1000000) (m1 : 1 ≤ m) (m2 : m ≤ 1000000000) (q : ∀ (r : Int) H', 0 ≤ r → r < m → Bx H' h (C + 1) → Kp h h H H' → Q (.int r) H') : tCall spTake [] E0 (tCons (tVar i) (tCons (tC (.int m)) tNil)) σ H Q := ⟨_, hσ, h, m, C, rfl, A, hC, m1, m2, q⟩
theorem ok__law_upper (T : Tp w K mg) : FnOk P w K mg base CX0 3 T.f__law_upper T.d__law_upper ["_law_hand_here", "_law_box", "_law_even"] spUpper := by
  refine T.F__law_upper.ok sc__law_upper (fun vs H Q E h => ?_) (fun cdv A outer s H vs Q E hr h => ?_)
  · obtain ⟨h, bx, ev, C, k, f, b, rfl, _⟩ := h
    rfl
  obtain ⟨h, bx, ev, C, k, f, b, rfl, A0, hC, n0, hk, f0, f1, b0, b1, q⟩ := h
  refine ⟨_, (pss_cons (ps_asg (pe_tup (pa_cons (pe_call (ok__law_name T) (hr.mono (by decide)) rfl T.m__law_name T.F__law_name.kp (b__law_name T) .nil pass0 (pa_cons (pv 1) pa_nil (star1 rfl)) (by decide) (star1 rfl) (starAll rfl)) (pa_cons (pe_op op_add pe_int (pe_call (ok__law_take T) (hr.mono (by decide)) rfl T.m__law_take T.F__law_take.kp (b__law_take T) .nil pass0 (pa_cons (pv 0) (pa_cons pe_int pa_nil (star1 rfl)) (star1 rfl)) (by decide) (star1 rfl) (starAll rfl))) (pa_cons (pe_op op_add pe_int (pe_call (ok__law_take T) (hr.mono (by decide)) rfl T.m__law_take T.F__law_take.kp (b__law_take T) .nil pass0 (pa_cons (pv 0) (pa_cons pe_int pa_nil (star1 rfl)) (star1 rfl)) (by decide) (star1 rfl) (starAll rfl))) pa_nil (star1 rfl)) (star1 rfl)) (star1 rfl))) (pg_tup rfl (pgs_cons (pg_name (i := 3) sc__law_upper.nd rfl (Or.inl rfl)) (pgs_cons (pg_name (i := 4) sc__law_upper.nd rfl (Or.inl rfl)) (pgs_cons (pg_name (i := 5) sc__law_upper.nd rfl (Or.inr rfl)) pgs_nil)))))
  (pss_cons (ps_if (pt_cmpR op_eq (pe_call (ok__law_take T) (hr.mono (by decide)) rfl T.m__law_take T.F__law_take.kp (b__law_take T) .nil pass0 (pa_cons (pv 0) (pa_cons pe_int pa_nil (star1 rfl)) (star1 rfl)) (by decide) (star1 rfl) (starAll rfl)) pe_int (nomark _)) (pss_cons (ps_setLc (i := 6) (own := [("_law_k", 7)]) (g := gName 7) (tt := tYes) rfl sc__law_upper.nd rfl rfl (sw_true rfl rfl rfl (by decide +kernel)) (pi_range1 rfl T.z_range (pa_cons (pe_op op_add pe_int (pe_call (ok__law_take T) (hr.mono (by decide)) rfl T.m__law_take T.F__law_take.kp (b__law_take T) .nil pass0 (pa_cons (pv 0) (pa_cons pe_int pa_nil (star1 rfl)) (star1 rfl)) (by decide) (star1 rfl) (starAll rfl))) pa_nil (star1 rfl))) (blkOk_by (N := N__law_upper) (sc := defScope s__law_upper) (by decide +kernel)) (fun _ _ _ _ _ => (pg_name (i := 7) sc__law_upper.nd rfl (Or.inl rfl))) (fun _ _ _ _ _ => pts_nil) (fun _ _ _ _ _ => (pe_call (ok__law_name T) (hr.mono (by decide)) rfl T.m__law_name T.F__law_name.kp (b__law_name T) .nil pass0 (pa_cons (pv 1) pa_nil (star1 rfl)) (by decide) (star1 rfl) (starAll rfl))))
  (pss_one (ps_set (i := 6) sc__law_upper.nd rfl (Or.inl rfl) (pe_op op_cat (pv 6) (pe_lc (own := [("_law_k", 7)]) (g := gName 7) (tt := tYes) rfl sc__law_upper.nd (pi_range1 rfl T.z_range (pa_cons (pe_call (ok__law_take T) (hr.mono (by decide)) rfl T.m__law_take T.F__law_take.kp (b__law_take T) .nil pass0 (pa_cons (pv 0) (pa_cons pe_int pa_nil (star1 rfl)) (star1 rfl)) (by decide) (star1 rfl) (starAll rfl)) pa_nil (star1 rfl))) (blkOk_by (N := N__law_upper) (sc := defScope s__law_upper) (by decide +kernel)) (fun _ _ _ _ _ => (pg_name (i := 7) sc__law_upper.nd rfl (Or.inl rfl))) (fun _ _ _ _ _ => pts_nil) (fun _ _ _ _ _ => (pe_call (ok__law_lot T) (hr.mono (by decide)) rfl T.m__law_lot T.F__law_lot.kp (b__law_lot T) .nil pass0 (pa_cons (pv 1) (pa_cons pe_int (pa_cons (pe_op op_add pe_int (pe_call (ok__law_take T) (hr.mono (by decide)) rfl T.m__law_take T.F__law_take.kp (b__law_take T) .nil pass0 (pa_cons (pv 0) (pa_cons pe_int pa_nil (star1 rfl)) (star1 rfl)) (by decide) (star1 rfl) (starAll rfl))) pa_nil (star1 rfl)) (star1 rfl)) (star1 rfl)) (by decide) (star1 rfl) (starAll rfl)))))))) (pss_one (ps_setLc (i := 6) (own := [("_law_k", 7)]) (g := gName 7) (tt := tYes) rfl sc__law_upper.nd rfl rfl (sw_true rfl rfl rfl (by decide +kernel)) (pi_range1 rfl T.z_range (pa_cons (pe_op op_add pe_int (pe_call (ok__law_take T) (hr.mono (by decide)) rfl T.m__law_take T.F__law_take.kp (b__law_take T) .nil pass0 (pa_cons (pv 0) (pa_cons pe_int pa_nil (star1 rfl)) (star1 rfl)) (by decide) (star1 rfl) (starAll rfl))) pa_nil (star1 rfl))) (blkOk_by (N := N__law_upper) (sc := defScope s__law_upper) (by decide +kernel)) (fun _ _ _ _ _ => (pg_name (i := 7) sc__law_upper.nd rfl (Or.inl rfl))) (fun _ _ _ _ _ => pts_nil) (fun _ _ _ _ _ => (pe_call (ok__law_lot T) (hr.mono (by decide)) rfl T.m__law_lot T.F__law_lot.kp (b__law_lot T) .nil pass0 (pa_cons (pv 1) (pa_cons pe_int (pa_cons (pv 5) pa_nil (star1 rfl)) (star1 rfl)) (star1 rfl)) (by decide) (star1 rfl) (starAll rfl))))))
  (pss_cons (ps_if (pt_not (pt_val (pv 2))) (pss_one (ps_expr (pe_bm PySem.F.plainAttrs_list PySem.F.slot_list_insert PySem.F.type_list_insert mt_insert (pv 6) (pa_cons (pe_call (ok__law_take T) (hr.mono (by decide)) rfl T.m__law_take T.F__law_take.kp (b__law_take T) .nil pass0 (pa_cons (pv 0) (pa_cons (pe_op op_add (pe_callB (lenK (K := K) rfl) rfl T.z_len PySem.boot_len (pa_cons (pv 6) pa_nil (star1 rfl)) (by decide) (by decide) (star1 rfl) (starAll rfl)) pe_int) pa_nil (star1 rfl)) (star1 rfl)) (by decide) (star1 rfl) (starAll rfl)) (pa_cons (pe_call (ok__law_lot T) (hr.mono (by decide)) rfl T.m__law_lot T.F__law_lot.kp (b__law_lot T) .nil pass0 (pa_cons (pv 1) (pa_cons pe_int (pa_cons (pe_op op_add (pv 5) pe_int) pa_nil (star1 rfl)) (star1 rfl)) (star1 rfl)) (by decide) (star1 rfl) (starAll rfl)) pa_nil (star1 rfl)) (star1 rfl))))) pss_nil)
  (pss_one (ps_ret (pe_tup (pa_cons (pv 3) (pa_cons (pv 4) (pa_cons (pe_callTy call_tuple_of rfl T.z_tuple (by decide +kernel) (pa_cons (pv 6) pa_nil (star1 rfl)) (by decide) (by decide) (star1 rfl) (starAll rfl)) pa_nil (star1 rfl)) (star1 rfl)) (star1 rfl)))))))), ?_⟩
  have hb : h ≠ bx := A0.ne n0
  refine q_asgG ?_
  refine ⟨_, rfl, bx, k, f, b, rfl, n0, by omega, f0, f1, b0, b1, fun H1 n1 k1 => ?_⟩
  have A1 := A0.kp hb k1
  refine take_at rfl A1 (by omega) (by decide) (by decide) fun r1 H2 r10 r11 A2 k2 => ⟨1, r1, rfl, rfl, ?_⟩
  refine take_at rfl A2 (by omega) (by decide) (by decide) fun r2 H3 r20 r21 A3 k3 => ⟨1, r2, rfl, rfl, ?_⟩
  have n3 := (n1.kp (Ne.symm hb) k2).kp (Ne.symm hb) k3
  refine ⟨(by show 3 ≤ sizeLine; decide), fun p hp => ⟨p, _, rfl, st_of upd_same, rfl, _, _, rfl, _, _, rfl, _, _, rfl, rfl, ?_⟩⟩
  have e4 := Ex.new (o := .tup [.str (nmL f b (k + 1)), .int (1 + r1), .int (1 + r2)]) hp
  have A4 := A3.ex e4
  have n4 := n3.ex e4
  have k04 : Kp h bx H (upd H3 p (.tup [.str (nmL f b (k + 1)), .int (1 + r1), .int (1 + r2)])) := (((kp_r k1).trans (kp_l k2)).trans (kp_l k3)).trans (Kp.ex e4)
  generalize upd H3 p (.tup [.str (nmL f b (k + 1)), .int (1 + r1), .int (1 + r2)]) = H4 at A4 n4 k04
  -- what stands in it
  refine q_ifM (fun σ' H' => ∃ ps xs ts k' c7, σ' = [some (.ref h), some (.ref bx), some (.bl ev), some (.str (nmL f b (k + 1))), some (.int (1 + r1)), some (.int (1 + r2)), some (.ref ps), c7] ∧ Bx H' h (C + 10) ∧ NB H' bx k' f b ∧ Kp h bx H H' ∧ H' ps = some (.lst xs) ∧ ps ≠ h ∧ ps ≠ bx ∧ H ps = none ∧ TrVs H' xs ts ∧ GIs f b (k + 1) k' 1 ts ∧ 1 ≤ ts.length ∧ ts.length ≤ 5 ∧ k + 1 ≤ k' ∧ k' ≤ k + 7) ?_ ?_
  rotate_left
  · intro R hR
    refine take_at rfl A4 (by omega) (by decide) (by decide) fun r3 H5 r30 r31 A5 k5 => ⟨rfl, _, rfl, ?_⟩
    have n5 := n4.kp (Ne.symm hb) k5
    have k05 := k04.trans (kp_l k5)
    refine ite2 (fun _ => ?_) (fun _ => ?_)
    · -- hands, and a group of one hand
      refine q_asgP ?_
      refine take_at rfl A5 (by omega) (by decide) (by decide) fun r4 H6 r40 r41 A6 k6 => ⟨1, r4, rfl, rfl, ⟨1 + r4, rfl, by omega, by omega, fun D hD => ?_⟩⟩
      have n6 := n5.kp (Ne.symm hb) k6
      have k06 := k05.trans (kp_l k6)
      have dh := A6.fresh hD
      have db := n6.fresh hD
      have HD := fresh_kp k06 dh db hD
      refine lc_range (lo := 0) (n := (1 + r4).toNat) (LI h bx f b (C + 1 + 1 + 1 + 1) (k + 1) 1 H6 D) (li_0 hD (A6.up (by omega)) n6) ?_ ?_
      · intro i H7 hi hP
        obtain ⟨xs, ts, k', A7, n7, k7, hacc, tvs, gs, hl, hk0, hkw⟩ := hP
        refine ⟨rfl, tYesQ ?_⟩
        refine ⟨_, rfl, bx, k', f, b, rfl, n7, by omega, f0, f1, b0, b1, fun H8 n8 k8 => ⟨_, k8 _ _ db db hacc, sz_lt (by have := trvs_len tvs; omega), ?_⟩⟩
        exact li_more hD dh db A7 n7 k7 tvs gs hl hk0 hkw ((A7.kp hb k8).up (by omega)) n8 (kp_r k8) (.hand _) (GI.hand (by omega) (by omega)) (by simp [Tr.size]; omega) (Nat.le_refl _) (k8 _ _ db db hacc)
      intro H7 hP
      obtain ⟨xs, ts, k', A7, n7, k7, hacc, tvs, gs, hl, hk0, hkw⟩ := hP
      have hn4 : (1 + r4).toNat ≤ 2 := by omega
      have hn4' : 1 ≤ (1 + r4).toNat := by omega
      have k07 := k06.trans k7
      refine s_asgP ?_
      refine ⟨_, rfl, ?_⟩
      refine take_at rfl A7 (by omega) (by decide) (by decide) fun r5 H8 r50 r51 A8 k8 => ⟨r5, rfl, by omega, by omega, fun D2 hD2 => ?_⟩
      have n8 := n7.kp (Ne.symm hb) k8
      have k08 := k07.trans (kp_l k8)
      have dh2 := A8.fresh hD2
      have db2 := n8.fresh hD2
      have hD8 : H8 D = some (.lst xs) := k8 _ _ dh dh hacc
      have dd : D ≠ D2 := fun z => by
        subst z
        rw [hD8] at hD2
        cases hD2
      have tvs8 := trvs_tk (tk_bx A7 k8) _ _ tvs
      refine lc_range (lo := 0) (n := r5.toNat) (fun i H' => LI h bx f b (C + 1 + 1 + 1 + 1 + (1 + r4).toNat + 1 + i) k' 2 H8 D2 i H') (li_0 hD2 (A8.up (by omega)) n8) ?_ ?_
      · intro i H9 hi hP
        obtain ⟨xs2, ts2, k2', A9, n9, k9, hacc2, tvs2, gs2, hl2, hk02, hkw2⟩ := hP
        refine ⟨rfl, tYesQ ?_⟩
        refine ⟨_, rfl, ?_⟩
        refine take_at rfl A9 (by omega) (by decide) (by decide) fun r6 H10 r60 r61 A10 k10 => ⟨1, r6, rfl, rfl, ?_⟩
        have n10 := n9.kp (Ne.symm hb) k10
        refine ⟨bx, k2', 1, 1 + r6, f, b, rfl, n10, by omega, f0, f1, b0, b1, by decide, by decide, by omega, by omega, fun v n d ms H11 n11 k11 tv11 gm11 sz11 _ => ⟨_, k11 _ _ db2 db2 (k10 _ _ dh2 dh2 hacc2), sz_lt (by have := trvs_len tvs2; omega), ?_⟩⟩
        have := li_more (C := C + 1 + 1 + 1 + 1 + (1 + r4).toNat + 1 + (i + 1)) (w := 2) hD2 dh2 db2 (A9.up (by omega)) n9 k9 tvs2 gs2 hl2 hk02 hkw2 ((A10.kp hb k11).up (by omega)) n11 ((kp_l k10).trans (kp_r k11)) tv11 gm11 (by omega) (by omega) (k11 _ _ db2 db2 (k10 _ _ dh2 dh2 hacc2))
        exact this
      intro H9 hP
      obtain ⟨xs2, ts2, k2', A9, n9, k9, hacc2, tvs2, gs2, hl2, hk02, hkw2⟩ := hP
      have hD9 : H9 D = some (.lst xs) := k9 _ _ dh db hD8
      have l1 := trvs_len tvs
      have l2 := trvs_len tvs2
      have tvs9 := trvs_tk (tk_kp2 A8 n8 k9) _ _ tvs8
      refine ⟨D, D2, xs, xs2, rfl, rfl, hD9, hacc2, sz_of (by omega), fun r hr => ?_⟩
      have n5r : r5.toNat ≤ 1 := by omega
      refine hR _ _ ⟨r, xs ++ xs2, ts ++ ts2, k2', _, rfl, (A9.up (by omega)).new hr, n9.ex (Ex.new hr), (k08.trans k9).trans (Kp.ex (Ex.new hr)), upd_same, A9.fresh hr, n9.fresh hr, fresh_kp (k08.trans k9) (A9.fresh hr) (n9.fresh hr) hr, trvs_tk (TK.new hr) _ _ (trvs_app tvs9 tvs2), GIs.cat gs gs2, by rw [List.length_append]; omega, by rw [List.length_append]; omega, by omega, by omega⟩
    · -- groups of two hands
      refine s_asgP ?_
      refine take_at rfl A5 (by omega) (by decide) (by decide) fun r4 H6 r40 r41 A6 k6 => ⟨1, r4, rfl, rfl, ⟨1 + r4, rfl, by omega, by omega, fun D hD => ?_⟩⟩
      have n6 := n5.kp (Ne.symm hb) k6
      have k06 := k05.trans (kp_l k6)
      have dh := A6.fresh hD
      have db := n6.fresh hD
      have HD := fresh_kp k06 dh db hD
      refine lc_range (lo := 0) (n := (1 + r4).toNat) (LI h bx f b (C + 1 + 1 + 1 + 1) (k + 1) 3 H6 D) (li_0 hD (A6.up (by omega)) n6) ?_ ?_
      · intro i H7 hi hP
        obtain ⟨xs, ts, k', A7, n7, k7, hacc, tvs, gs, hl, hk0, hkw⟩ := hP
        refine ⟨rfl, tYesQ ?_⟩
        refine ⟨_, rfl, _, rfl, bx, k', 2, 1 + r2, f, b, rfl, n7, by omega, f0, f1, b0, b1, by decide, by decide, by omega, by omega, fun v n d ms H8 n8 k8 tv8 gm8 sz8 _ => ⟨_, k8 _ _ db db hacc, sz_lt (by have := trvs_len tvs; omega), ?_⟩⟩
        exact li_more hD dh db A7 n7 k7 tvs gs hl hk0 hkw ((A7.kp hb k8).up (by omega)) n8 (kp_r k8) tv8 gm8 (by omega) (by omega) (k8 _ _ db db hacc)
      intro H7 hP
      obtain ⟨xs, ts, k', A7, n7, k7, hacc, tvs, gs, hl, hk0, hkw⟩ := hP
      have hn4 : (1 + r4).toNat ≤ 2 := by omega
      have hn4' : 1 ≤ (1 + r4).toNat := by omega
      exact hR _ _ ⟨D, xs, ts, k', _, rfl, A7.up (by omega), n7, k06.trans k7, hacc, dh, db, HD, tvs, gs, by omega, by omega, hk0, by omega⟩
  intro σ' H5 hM
  obtain ⟨ps, xs, ts, k', c7, rfl, A5, n5, k05, hps, ph, pb, psH, tvs, gs, l1, l2, hk0, hkw⟩ := hM
  have hxl := trvs_len tvs
  refine q_whenM (fun σ' H' => ∃ xs ts k', σ' = [some (.ref h), some (.ref bx), some (.bl ev), some (.str (nmL f b (k + 1))), some (.int (1 + r1)), some (.int (1 + r2)), some (.ref ps), c7] ∧ Bx H' h (C + 12) ∧ NB H' bx k' f b ∧ Kp h bx H H' ∧ H' ps = some (.lst xs) ∧ TrVs H' xs ts ∧ GIs f b (k + 1) k' 1 ts ∧ 1 ≤ ts.length ∧ ts.length ≤ 6 ∧ k + 1 ≤ k' ∧ k' ≤ k + 10) (et_not (et_B (b := ev) (ev_var rfl))) ?_ ?_ ?_
  rotate_left
  · intro R hR hb2 H6 e6
    refine s_dropP ?_
    refine ⟨.ref ps, rfl, Or.inl ⟨rfl, xs, sq_of (e6 _ _ hps)⟩, ?_⟩
    have lenE : Ev (tOp (rI0 fun i j => .int (i + j)) (tCB (rLenS K) (tCons (tVar 6) tNil)) (tC (.int 1))) [some (.ref h), some (.ref bx), some (.bl ev), some (.str (nmL f b (k + 1))), some (.int (1 + r1)), some (.int (1 + r2)), some (.ref ps), c7] H6 (.int ((xs.length : Int) + 1)) := ev_I0 (g := fun i j => .int (i + j)) (ev_len (ev_var rfl) (sq_of (e6 _ _ hps))) ev_c
    refine ⟨_, rfl, lenE H6 (Ex.refl H6) _ fun H7 e7 => ⟨h, _, _, rfl, A5.ex (e6.trans e7), by omega, by omega, by omega, fun r6 H8 r60 r61 A8 k8 => ?_⟩⟩
    have n8 := (n5.ex (e6.trans e7)).kp (Ne.symm hb) k8
    refine ⟨_, rfl, _, rfl, 1 + r2, 1, rfl, rfl, bx, k', 2, 1 + r2 + 1, f, b, rfl, n8, by omega, f0, f1, b0, b1, by decide, by decide, by omega, by omega, fun v n d ms H9 n9 k9 tv9 gm9 sz9 _ => ?_⟩
    have e57 := e6.trans e7
    have hps9 : H9 ps = some (.lst xs) := k9 _ _ pb pb (k8 _ _ ph ph (e57 _ _ hps))
    have A9 := A8.kp hb k9
    have tk9 : TK H5 H9 := ((TK.ex e57).trans (tk_bx (A5.ex e57) k8)).trans (tk_nb n8 k9)
    have k09 := (((k05.trans (Kp.ex e57)).trans (kp_l k8)).trans (kp_r k9))
    refine ⟨ps, xs, r6, v, rfl, rfl, hps9, sz_lt (by omega), r60, by omega, ?_⟩
    have tkP : TK H9 (upd H9 ps (.lst (xs.take r6.toNat ++ [v] ++ xs.drop r6.toNat))) := TK.lst hps9
    refine hR _ _ ⟨_, ts.take r6.toNat ++ [.grp n d ms] ++ ts.drop r6.toNat, k' + 1 + 2, rfl, ?_, ?_, ?_, upd_same, trvs_tk tkP _ _ (trvs_ins (trvs_tk tk9 _ _ tvs) tv9), GIs.ins (mid := k') (by rw [List.take_append_drop]; exact gs) gm9 (by omega) (by omega), ?_, ?_, by omega, by omega⟩
    · obtain ⟨nn, mm, cc, B⟩ := A9
      exact ⟨nn, mm, cc, by rw [upd_ne (Ne.symm ph)]; exact B.hh, B.n0, B.m0, B.m1, B.c0, by have := B.c1; omega⟩
    · show upd H9 ps _ bx = _
      rw [upd_ne (Ne.symm pb)]
      exact n9
    · intro a o u1 u2 ha
      have : a ≠ ps := fun z => by
        subst z
        rw [psH] at ha
        cases ha
      rw [upd_ne this]
      exact k09 a o u1 u2 ha
    · simp only [List.length_append, List.length_take, List.length_drop, List.length_singleton]
      omega
    · simp only [List.length_append, List.length_take, List.length_drop, List.length_singleton]
      omega
  · intro hb2 H6 e6
    exact ⟨xs, ts, k', rfl, (A5.ex e6).up (by omega), n5.ex e6, k05.trans (Kp.ex e6), e6 _ _ hps, trvs_tk (TK.ex e6) _ _ tvs, gs, l1, by omega, hk0, by omega⟩
  intro σ' H6 hM
  obtain ⟨xs, ts, k', rfl, A6, n6, k06, hps6, tvs6, gs6, l16, l26, hk06, hkw6⟩ := hM
  refine s_retP ?_
  refine ⟨_, rfl, _, rfl, _, rfl, ps, xs, rfl, Or.inl ⟨sq_of hps6, fun t ht => ⟨(by show 3 ≤ sizeLine; decide), fun g hg => ?_⟩⟩⟩
  have e7 := (Ex.new (o := .tup xs) ht).trans (Ex.new (o := .tup [.str (nmL f b (k + 1)), .int (1 + r1), .ref t]) hg)
  refine q (.ref g) (.grp (nmL f b (k + 1)) (1 + r1) ts) _ k' ((A6.ex e7).up (by omega)) (n6.ex e7) (k06.trans (Kp.ex e7)) (.grp upd_same ((Ex.new hg) _ _ upd_same) (trvs_tk (TK.ex e7) _ _ tvs6)) (GIs.grp (lo := k + 1) (d := 1) gs6 (fun z => by rw [z] at l16; cases l16) (by omega) (by omega) (by omega) hk06 (by omega) (Nat.le_refl _)) ?_ hkw6
  have := gs6.sz
  simp only [Tr.size]
  omega
end
/-! ### a plan -/
theorem q_asgM {te : TE} {tz : TS} {D : Ends} {σ : L2.St} {H : Hp} {i : Nat} (M : V → Hp → Prop) (h : ∀ R : V → Hp → Prop, (∀ v H', M v H' → R v H') → te σ H R) (k : ∀ v H', M v H' → tz D (σ.set i (some v)) H') : tSeq (tAsg te (gName i)) tz D σ H := h (fun v H1 => tz D (σ.set i (some v)) H1) k
structure PG (n : Str) (d : Int) (ms : List Tr) : Prop where
  ok : (Tr.grp n d ms).ok
  dp : (Tr.grp n d ms).deep ≤ 3
  nm : ∀ x ∈ (Tr.grp n d ms).nms, nameOk x
  sz : (Tr.grp n d ms).size ≤ 30
  un : (Tr.grp n d ms).nms.Nodup
  ln : ∀ x ∈ (Tr.grp n d ms).nms, x.length = 1
def spPlan : Sp := fun vs H Q _ => ∃ (h : Addr) (ev : Bool) (C : Nat), vs = [.ref h, .bl ev] ∧ Bx H h C ∧ C ≤ 50000 ∧ ∀ v n d ms H', Bx H' h (C + 60) → Kp h h H H' → TrV H' v (.grp n d ms) → PG n d ms → Q v H'
section
variable {P : Program} {w : World} {K : PySem.W.Frag} {mg : Str → Option Value} {base : Heap}
theorem ok__law_plan (T : Tp w K mg) : FnOk P w K mg base CX0 4 T.f__law_plan T.d__law_plan ["_law_hand_here", "_law_even"] spPlan := by
  refine T.F__law_plan.ok sc__law_plan (fun vs H Q E h => ?_) (fun cdv A outer s H vs Q E hr h => ?_)
  · obtain ⟨h, ev, C, rfl, _⟩ := h
    rfl
  obtain ⟨h, ev, C, rfl, A0, hC, q⟩ := h
  refine ⟨_, (pss_cons (ps_set (i := 2) sc__law_plan.nd rfl (Or.inl rfl) (pe_disp (pps_cons pe_str pe_int (pps_cons pe_str (pe_call (ok__law_take T) (hr.mono (by decide)) rfl T.m__law_take T.F__law_take.kp (b__law_take T) .nil pass0 (pa_cons (pv 0) (pa_cons pe_int pa_nil (star1 rfl)) (star1 rfl)) (by decide) (star1 rfl) (starAll rfl)) (pps_cons pe_str (pe_call (ok__law_pick T) (hr.mono (by decide)) rfl T.m__law_pick T.F__law_pick.kp (b__law_pick T) .nil pass0 (pa_cons (pv 0) (pa_cons (pe_lst (pa_cons pe_int (pa_cons pe_int (pa_cons pe_int (pa_cons pe_int (pa_cons pe_int (pa_cons pe_int (pa_cons pe_int pa_nil (star1 rfl)) (star1 rfl)) (star1 rfl)) (star1 rfl)) (star1 rfl)) (star1 rfl)) (star1 rfl))) pa_nil (star1 rfl)) (star1 rfl)) (by decide) (star1 rfl) (starAll rfl)) pps_nil))) (by rfl) (by rfl) (fun z => by cases z) (by decide)))
  (pss_cons (ps_set (i := 3) sc__law_plan.nd rfl (Or.inl rfl) (pe_ifExp (pt_val (pv 1)) (pe_call (ok__law_take T) (hr.mono (by decide)) rfl T.m__law_take T.F__law_take.kp (b__law_take T) .nil pass0 (pa_cons (pv 0) (pa_cons pe_int pa_nil (star1 rfl)) (star1 rfl)) (by decide) (star1 rfl) (starAll rfl)) pe_int))
  (pss_cons (ps_if (pt_cmpR op_eq (pv 3) pe_int (nomark _)) (pss_one (ps_ret (pe_call (ok__law_lot T) (hr.mono (by decide)) rfl T.m__law_lot T.F__law_lot.kp (b__law_lot T) .nil pass0 (pa_cons (pv 2) (pa_cons (pe_op op_add pe_int (pe_call (ok__law_take T) (hr.mono (by decide)) rfl T.m__law_take T.F__law_take.kp (b__law_take T) .nil pass0 (pa_cons (pv 0) (pa_cons pe_int pa_nil (star1 rfl)) (star1 rfl)) (by decide) (star1 rfl) (starAll rfl))) (pa_cons (pe_op op_add pe_int (pe_call (ok__law_take T) (hr.mono (by decide)) rfl T.m__law_take T.F__law_take.kp (b__law_take T) .nil pass0 (pa_cons (pv 0) (pa_cons pe_int pa_nil (star1 rfl)) (star1 rfl)) (by decide) (star1 rfl) (starAll rfl))) pa_nil (star1 rfl)) (star1 rfl)) (star1 rfl)) (by decide) (star1 rfl) (starAll rfl)))) pss_nil)
  (pss_cons (ps_par rfl sc__law_plan.nd (i := 4) (j := 5) rfl rfl (by decide) rfl rfl (pa_cons (pe_call (ok__law_name T) (hr.mono (by decide)) rfl T.m__law_name T.F__law_name.kp (b__law_name T) .nil pass0 (pa_cons (pv 2) pa_nil (star1 rfl)) (by decide) (star1 rfl) (starAll rfl)) (pa_cons (pe_lst pa_nil) pa_nil (star1 rfl)) (star1 rfl)) (by rfl))
  (pss_cons (ps_for PassesOwn.never rfl (pi_range1 rfl T.z_range (pa_cons (pe_op op_add pe_int (pe_call (ok__law_take T) (hr.mono (by decide)) rfl T.m__law_take T.F__law_take.kp (b__law_take T) .nil pass0 (pa_cons (pv 0) (pa_cons pe_int pa_nil (star1 rfl)) (star1 rfl)) (by decide) (star1 rfl) (starAll rfl))) pa_nil (star1 rfl))) (pg_name (i := 6) sc__law_plan.nd rfl (Or.inl rfl)) (pss_one (ps_expr (pe_bm PySem.F.plainAttrs_list PySem.F.slot_list_append PySem.F.type_list_append mt_append (pv 5) (pa_cons (pe_call (ok__law_lot T) (hr.mono (by decide)) rfl T.m__law_lot T.F__law_lot.kp (b__law_lot T) .nil pass0 (pa_cons (pv 2) (pa_cons (pe_op op_add pe_int (pe_call (ok__law_take T) (hr.mono (by decide)) rfl T.m__law_take T.F__law_take.kp (b__law_take T) .nil pass0 (pa_cons (pv 0) (pa_cons pe_int pa_nil (star1 rfl)) (star1 rfl)) (by decide) (star1 rfl) (starAll rfl))) (pa_cons (pe_op op_add pe_int (pe_call (ok__law_take T) (hr.mono (by decide)) rfl T.m__law_take T.F__law_take.kp (b__law_take T) .nil pass0 (pa_cons (pv 0) (pa_cons pe_int pa_nil (star1 rfl)) (star1 rfl)) (by decide) (star1 rfl) (starAll rfl))) pa_nil (star1 rfl)) (star1 rfl)) (star1 rfl)) (by decide) (star1 rfl) (starAll rfl)) pa_nil (star1 rfl))))))
  (pss_cons (ps_if (pt_cmpR op_gt (pv 3) pe_int (nomark _)) (pss_one (ps_expr (pe_bm PySem.F.plainAttrs_list PySem.F.slot_list_insert PySem.F.type_list_insert mt_insert (pv 5) (pa_cons (pe_call (ok__law_take T) (hr.mono (by decide)) rfl T.m__law_take T.F__law_take.kp (b__law_take T) .nil pass0 (pa_cons (pv 0) (pa_cons (pe_op op_add (pe_callB (lenK (K := K) rfl) rfl T.z_len PySem.boot_len (pa_cons (pv 5) pa_nil (star1 rfl)) (by decide) (by decide) (star1 rfl) (starAll rfl)) pe_int) pa_nil (star1 rfl)) (star1 rfl)) (by decide) (star1 rfl) (starAll rfl)) (pa_cons (pe_call (ok__law_upper T) (hr.mono (by decide)) rfl T.m__law_upper T.F__law_upper.kp (b__law_upper T) .nil pass0 (pa_cons (pv 0) (pa_cons (pv 2) (pa_cons (pv 1) pa_nil (star1 rfl)) (star1 rfl)) (star1 rfl)) (by decide) (star1 rfl) (starAll rfl)) pa_nil (star1 rfl)) (star1 rfl))))) pss_nil)
  (pss_cons (ps_if (pt_cmpR op_eq (pe_call (ok__law_take T) (hr.mono (by decide)) rfl T.m__law_take T.F__law_take.kp (b__law_take T) .nil pass0 (pa_cons (pv 0) (pa_cons pe_int pa_nil (star1 rfl)) (star1 rfl)) (by decide) (star1 rfl) (starAll rfl)) pe_int (nomark _)) (pss_one (ps_expr (pe_bm PySem.F.plainAttrs_list PySem.F.slot_list_insert PySem.F.type_list_insert mt_insert (pv 5) (pa_cons (pe_call (ok__law_take T) (hr.mono (by decide)) rfl T.m__law_take T.F__law_take.kp (b__law_take T) .nil pass0 (pa_cons (pv 0) (pa_cons (pe_op op_add (pe_callB (lenK (K := K) rfl) rfl T.z_len PySem.boot_len (pa_cons (pv 5) pa_nil (star1 rfl)) (by decide) (by decide) (star1 rfl) (starAll rfl)) pe_int) pa_nil (star1 rfl)) (star1 rfl)) (by decide) (star1 rfl) (starAll rfl)) (pa_cons (pe_call (ok__law_name T) (hr.mono (by decide)) rfl T.m__law_name T.F__law_name.kp (b__law_name T) .nil pass0 (pa_cons (pv 2) pa_nil (star1 rfl)) (by decide) (star1 rfl) (starAll rfl)) pa_nil (star1 rfl)) (star1 rfl))))) pss_nil)
  (pss_one (ps_ret (pe_tup (pa_cons (pv 4) (pa_cons (pe_op op_add pe_int (pe_call (ok__law_take T) (hr.mono (by decide)) rfl T.m__law_take T.F__law_take.kp (b__law_take T) .nil pass0 (pa_cons (pv 0) (pa_cons pe_int pa_nil (star1 rfl)) (star1 rfl)) (by decide) (star1 rfl) (starAll rfl))) (pa_cons (pe_callTy call_tuple_of rfl T.z_tuple (by decide +kernel) (pa_cons (pv 5) pa_nil (star1 rfl)) (by decide) (by decide) (star1 rfl) (starAll rfl)) pa_nil (star1 rfl)) (star1 rfl)) (star1 rfl)))))))))))), ?_⟩
  refine q_asgP ?_
  intro bx hbx
  have hbh : bx ≠ h := A0.fresh hbx
  have A1 := A0.new (o := .dK []) hbx
  refine take_at rfl A1 (by omega) (by decide) (by decide) fun f H2 f0 f1 A2 k2 => ?_
  refine ⟨_, rfl, (by show 7 ≤ sizeLine; decide), fun pl hpl => ⟨h, pl, _, _, rfl, A2.new hpl, by omega, upd_same, A2.fresh hpl, by decide, by decide, fun bv H3 hm A3 k3 => ?_⟩⟩
  obtain ⟨b, rfl, hby⟩ : ∃ b : Int, bv = .int b ∧ byOk b := by
    simp only [List.mem_cons, List.not_mem_nil, or_false] at hm
    rcases hm with z | z | z | z | z | z | z
    · exact ⟨1, z, .inl rfl⟩
    · exact ⟨3, z, .inr (.inl rfl)⟩
    · exact ⟨5, z, .inr (.inr (.inl rfl))⟩
    · exact ⟨7, z, .inr (.inr (.inr (.inl rfl)))⟩
    · exact ⟨9, z, .inr (.inr (.inr (.inr (.inl rfl))))⟩
    · exact ⟨11, z, .inr (.inr (.inr (.inr (.inr (.inl rfl)))))⟩
    · exact ⟨25, z, .inr (.inr (.inr (.inr (.inr (.inr rfl)))))⟩
  have b0 : 0 ≤ b ∧ b ≤ 1000 := by rcases hby with z | z | z | z | z | z | z <;> omega
  have k13 : Kp h h (upd H bx (.dK [])) H3 := (k2.trans (Kp.ex (Ex.new hpl))).trans k3
  have hb3 : H3 bx = some (.dK []) := k13 _ _ hbh hbh upd_same
  refine ⟨hb3, [(Sum.inr (Str.ofString "next"), .int 0), (Sum.inr (Str.ofString "first"), .int f), (Sum.inr (Str.ofString "by"), .int b)], rfl, (by show 3 ≤ 15; decide), ?_⟩
  have n4 : NB (upd H3 bx (.dK (mergeK [] [(Sum.inr (Str.ofString "next"), V.int 0), (Sum.inr (Str.ofString "first"), .int f), (Sum.inr (Str.ofString "by"), .int b)]))) bx 0 f b := by
    show upd _ _ _ _ = _
    rw [upd_same]
    have d1 : (Sum.inr (Str.ofString "next") : L2.Key) ≠ Sum.inr (Str.ofString "first") := by decide +kernel
    have d2 : (Sum.inr (Str.ofString "next") : L2.Key) ≠ Sum.inr (Str.ofString "by") := by decide +kernel
    have d3 : (Sum.inr (Str.ofString "first") : L2.Key) ≠ Sum.inr (Str.ofString "by") := by decide +kernel
    simp [mergeK, putK, d1, d2, d3]
  have A4 : Bx (upd H3 bx (.dK (mergeK [] [(Sum.inr (Str.ofString "next"), V.int 0), (Sum.inr (Str.ofString "first"), .int f), (Sum.inr (Str.ofString "by"), .int b)]))) h (C + 1 + 1) := by
    obtain ⟨x1, x2, x3, B⟩ := A3
    exact ⟨x1, x2, x3, by rw [upd_ne (Ne.symm hbh)]; exact B.hh, B.n0, B.m0, B.m1, B.c0, B.c1⟩
  have k04 : Kp h bx H (upd H3 bx (.dK (mergeK [] [(Sum.inr (Str.ofString "next"), V.int 0), (Sum.inr (Str.ofString "first"), .int f), (Sum.inr (Str.ofString "by"), .int b)]))) := fun a o u1 u2 ha => by
    rw [upd_ne u2]
    exact k13 a o u1 u1 ((Ex.new hbx) _ _ ha)
  generalize upd H3 bx (.dK (mergeK [] [(Sum.inr (Str.ofString "next"), V.int 0), (Sum.inr (Str.ofString "first"), .int f), (Sum.inr (Str.ofString "by"), .int b)])) = H4 at n4 A4 k04
  have hb : h ≠ bx := Ne.symm hbh
  have back : ∀ {H'}, Kp h bx H H' → Kp h h H H' := fun k a o u1 u2 ha => by
    refine k a o u1 (fun z => ?_) ha
    subst z
    rw [hbx] at ha
    cases ha
  refine q_asgM (fun v H' => ∃ wy : Int, v = .int wy ∧ 0 ≤ wy ∧ Bx H' h (C + 3) ∧ NB H' bx 0 f b ∧ Kp h bx H H') ?_ ?_
  · intro R hR
    refine ⟨.bl ev, rfl, ev, rfl, ?_⟩
    cases ev with
    | true =>
      refine iteT ?_
      exact take_at rfl A4 (by omega) (by decide) (by decide) fun r H5 r0 r1 A5 k5 => hR _ _ ⟨r, rfl, r0, A5, n4.kp hbh k5, k04.trans (kp_l k5)⟩
    | false =>
      refine iteF ?_
      exact hR _ _ ⟨2, rfl, by decide, A4.up (by omega), n4, k04⟩
  intro v H5 hM
  obtain ⟨wy, rfl, wy0, A5, n5, k05⟩ := hM
  refine q_when (et_test (ev_eq (ev_var rfl) ev_c rfl)) (fun hb0 H6 e6 => ?_) (fun hb0 H6 e6 => ?_)
  · refine s_retP ?_
    refine ⟨_, rfl, ?_⟩
    refine take_at rfl (A5.ex e6) (by omega) (by decide) (by decide) fun r1 H7 r10 r11 A7 k7 => ⟨1, r1, rfl, rfl, ?_⟩
    refine take_at rfl A7 (by omega) (by decide) (by decide) fun r2 H8 r20 r21 A8 k8 => ⟨1, r2, rfl, rfl, ?_⟩
    have n8 := ((n5.ex e6).kp hbh k7).kp hbh k8
    have em : (1 + r1 : Int) = (((1 + r1).toNat : Nat) : Int) := by omega
    refine ⟨bx, 0, (1 + r1).toNat, 1 + r2, f, b, by rw [← em]; rfl, n8, by omega, f0, by omega, b0.1, b0.2, by omega, by omega, by omega, by omega, fun v n d ms H9 n9 k9 tv9 gm9 sz9 fin => ?_⟩
    refine q v n d ms H9 ((A8.kp hb k9).up (by omega)) (back ((((k05.trans (Kp.ex e6)).trans (kp_l k7)).trans (kp_l k8)).trans (kp_r k9))) tv9 ⟨gm9.ok, Nat.le_trans gm9.dp (by decide), gm9.nm, by omega, gm9.nd hby (by omega), gm9.ln⟩
  refine q_parP ?_
  refine ⟨_, rfl, bx, 0, f, b, rfl, n5.ex e6, by omega, f0, by omega, b0.1, b0.2, fun H7 n7 k7 => ⟨(by show 0 ≤ sizeLine; decide), fun ps hps => ⟨_, _, rfl, ?_⟩⟩⟩
  have A7 := (A5.ex e6).kp hb k7
  have k07 : Kp h bx H H7 := (k05.trans (Kp.ex e6)).trans (kp_r k7)
  have ph := A7.fresh hps
  have pb := n7.fresh hps
  have psH := fresh_kp k07 ph pb hps
  have e8 := Ex.new (o := .lst []) hps
  have h8 : upd H7 ps (.lst []) ps = some (.lst []) := upd_same
  have A8 := A7.ex e8
  have n8 := n7.ex e8
  have k08 := k07.trans (Kp.ex e8)
  generalize upd H7 ps (.lst []) = H8 at h8 A8 n8 k08
  have mutK : ∀ {H' : Hp} {ys : List V}, Kp h bx H H' → Kp h bx H (upd H' ps (.lst ys)) := fun k a o u1 u2 ha => by
    have : a ≠ ps := fun z => by
      subst z
      rw [psH] at ha
      cases ha
    rw [upd_ne this]
    exact k a o u1 u2 ha
  have mutA : ∀ {H' : Hp} {ys : List V} {C : Nat}, Bx H' h C → Bx (upd H' ps (.lst ys)) h C := fun A => by
    obtain ⟨x1, x2, x3, B⟩ := A
    exact ⟨x1, x2, x3, by rw [upd_ne (Ne.symm ph)]; exact B.hh, B.n0, B.m0, B.m1, B.c0, B.c1⟩
  have mutN : ∀ {H' : Hp} {ys : List V} {k : Nat}, NB H' bx k f b → NB (upd H' ps (.lst ys)) bx k f b := fun n => by
    show upd _ _ _ _ = _
    rw [upd_ne (Ne.symm pb)]
    exact n
  refine q_forU ?_
  refine take_at rfl A8 (by omega) (by decide) (by decide) fun r3 H9 r30 r31 A9 k9 => ⟨1, r3, rfl, rfl, 1 + r3, rfl, by omega, by omega, ?_⟩
  refine rng_turns (n := (1 + r3).toNat) (fun i σ' H' => ∃ xs ts k' c6, σ' = [some (.ref h), some (.bl ev), some (.ref bx), some (.int wy), some (.str (nmL f b 1)), some (.ref ps), c6] ∧ Bx H' h (C + 4 + 2 * i) ∧ NB H' bx k' f b ∧ Kp h bx H H' ∧ H' ps = some (.lst xs) ∧ TrVs H' xs ts ∧ GIs f b 1 k' 2 ts ∧ ts.length = i ∧ 1 ≤ k' ∧ k' ≤ 1 + 4 * i) ?_ ?_ ?_
  · exact ⟨[], [], 1, _, rfl, A9, n8.kp hbh k9, k08.trans (kp_l k9), k9 _ _ ph ph h8, .nil, GIs.nil, rfl, Nat.le_refl _, by omega⟩
  · intro i σ' H10 hi hP
    obtain ⟨xs, ts, k', c6, rfl, A10, n10, k10, hps10, tvs, gs, hl, hk0, hkw⟩ := hP
    have hi2 : i < 2 := by omega
    refine s_dropP ?_
    refine ⟨.ref ps, rfl, Or.inl ⟨rfl, xs, sq_of hps10⟩, _, rfl, ?_⟩
    refine take_at rfl A10 (by omega) (by decide) (by decide) fun r4 H11 r40 r41 A11 k11 => ⟨1, r4, rfl, rfl, ?_⟩
    refine take_at rfl A11 (by omega) (by decide) (by decide) fun r5 H12 r50 r51 A12 k12 => ⟨1, r5, rfl, rfl, ?_⟩
    have n12 := (n10.kp hbh k11).kp hbh k12
    have em : (1 + r4 : Int) = (((1 + r4).toNat : Nat) : Int) := by omega
    refine ⟨bx, k', (1 + r4).toNat, 1 + r5, f, b, by rw [← em]; rfl, n12, by omega, f0, by omega, b0.1, b0.2, by omega, by omega, by omega, by omega, fun v n d ms H13 n13 k13 tv13 gm13 sz13 _ => ?_⟩
    have hps13 : H13 ps = some (.lst xs) := k13 _ _ pb pb (k12 _ _ ph ph (k11 _ _ ph ph hps10))
    have l1 := trvs_len tvs
    refine ⟨ps, xs, v, rfl, rfl, hps13, sz_lt (by omega), ?_⟩
    have tk13 : TK H10 H13 := ((tk_bx A10 k11).trans (tk_bx A11 k12)).trans (tk_nb n12 k13)
    have tkP : TK H13 (upd H13 ps (.lst (xs ++ [v]))) := TK.lst hps13
    refine ⟨xs ++ [v], ts ++ [.grp n d ms], k' + 1 + (1 + r4).toNat, _, rfl, mutA ((A12.kp hb k13).up (by omega)), mutN n13, mutK (((k10.trans (kp_l k11)).trans (kp_l k12)).trans (kp_r k13)), upd_same, trvs_tk tkP _ _ (trvs_app (trvs_tk tk13 _ _ tvs) (.cons tv13 .nil)), GIs.app gs (gm13.up (Nat.le_refl _) (Nat.le_refl _) (by decide)) (by omega) hk0, by rw [List.length_append]; simp [hl], by omega, by omega⟩
  intro σ' H10 hP
  obtain ⟨xs, ts, k', c6, rfl, A10, n10, k10, hps10, tvs, gs, hl, hk0, hkw⟩ := hP
  have hn3 : (1 + r3).toNat ≤ 2 := by omega
  have hn3' : 1 ≤ (1 + r3).toNat := by omega
  -- a group of groups
  refine q_whenM (fun σ' H' => ∃ xs ts k', σ' = [some (.ref h), some (.bl ev), some (.ref bx), some (.int wy), some (.str (nmL f b 1)), some (.ref ps), c6] ∧ Bx H' h (C + 30) ∧ NB H' bx k' f b ∧ Kp h bx H H' ∧ H' ps = some (.lst xs) ∧ TrVs H' xs ts ∧ GIs f b 1 k' 2 ts ∧ 1 ≤ ts.length ∧ ts.length ≤ 3 ∧ 1 ≤ k' ∧ k' ≤ 19) (et_test (ev_I0 (ev_var rfl) ev_c)) ?_ ?_ ?_
  rotate_left
  · intro R hR hb2 H11 e11
    refine s_dropP ?_
    refine ⟨.ref ps, rfl, Or.inl ⟨rfl, xs, sq_of (e11 _ _ hps10)⟩, ?_⟩
    have lenE : Ev (tOp (rI0 fun i j => .int (i + j)) (tCB (rLenS K) (tCons (tVar 5) tNil)) (tC (.int 1))) [some (.ref h), some (.bl ev), some (.ref bx), some (.int wy), some (.str (nmL f b 1)), some (.ref ps), c6] H11 (.int ((xs.length : Int) + 1)) := ev_I0 (g := fun i j => .int (i + j)) (ev_len (ev_var rfl) (sq_of (e11 _ _ hps10))) ev_c
    have l1 := trvs_len tvs
    refine ⟨_, rfl, lenE H11 (Ex.refl H11) _ fun H12 e12 => ⟨h, _, _, rfl, A10.ex (e11.trans e12), by omega, by omega, by omega, fun r6 H13 r60 r61 A13 k13 => ?_⟩⟩
    have e112 := e11.trans e12
    have n13 := (n10.ex e112).kp hbh k13
    refine ⟨_, rfl, _, rfl, _, rfl, h, bx, ev, _, k', f, b, rfl, A13, by omega, n13, by omega, f0, by omega, b0.1, b0.2, fun v t H14 k'' A14 n14 k14 tv14 gm14 sz14 hk14 => ?_⟩
    have hps14 : H14 ps = some (.lst xs) := k14 _ _ ph pb (k13 _ _ ph ph (e112 _ _ hps10))
    have tk14 : TK H10 H14 := ((TK.ex e112).trans (tk_bx (A10.ex e112) k13)).trans (tk_kp2 A13 n13 k14)
    refine ⟨ps, xs, r6, v, rfl, rfl, hps14, sz_lt (by omega), r60, by omega, ?_⟩
    have tkP : TK H14 (upd H14 ps (.lst (xs.take r6.toNat ++ [v] ++ xs.drop r6.toNat))) := TK.lst hps14
    refine hR _ _ ⟨_, ts.take r6.toNat ++ [t] ++ ts.drop r6.toNat, k'', rfl, mutA (A14.up (by omega)), mutN n14, mutK (((k10.trans (Kp.ex e112)).trans (kp_l k13)).trans k14), upd_same, trvs_tk tkP _ _ (trvs_ins (trvs_tk tk14 _ _ tvs) tv14), GIs.ins (mid := k') (by rw [List.take_append_drop]; exact gs) gm14 (by omega) (by omega), ?_, ?_, by omega, by omega⟩
    · simp only [List.length_append, List.length_take, List.length_drop, List.length_singleton]
      omega
    · simp only [List.length_append, List.length_take, List.length_drop, List.length_singleton]
      omega
  · intro hb2 H11 e11
    exact ⟨xs, ts, k', rfl, (A10.ex e11).up (by omega), n10.ex e11, k10.trans (Kp.ex e11), e11 _ _ hps10, trvs_tk (TK.ex e11) _ _ tvs, gs, by omega, by omega, hk0, by omega⟩
  intro σ' H11 hM
  obtain ⟨xs, ts, k', rfl, A11, n11, k11, hps11, tvs, gs, l1, l2, hk0, hkw⟩ := hM
  -- a hand beside them
  refine q_ifM (fun σ' H' => ∃ xs ts k', σ' = [some (.ref h), some (.bl ev), some (.ref bx), some (.int wy), some (.str (nmL f b 1)), some (.ref ps), c6] ∧ Bx H' h (C + 32) ∧ NB H' bx k' f b ∧ Kp h bx H H' ∧ H' ps = some (.lst xs) ∧ TrVs H' xs ts ∧ GIs f b 1 k' 2 ts ∧ 1 ≤ ts.length ∧ 1 ≤ k' ∧ k' ≤ 20) ?_ ?_
  rotate_left
  · intro R hR
    refine take_at rfl A11 (by omega) (by decide) (by decide) fun r7 H12 r70 r71 A12 k12 => ⟨rfl, _, rfl, ?_⟩
    have n12 := n11.kp hbh k12
    have hps12 : H12 ps = some (.lst xs) := k12 _ _ ph ph hps11
    have tvs12 := trvs_tk (tk_bx A11 k12) _ _ tvs
    refine ite2 (fun _ => ?_) (fun _ => ?_)
    · refine s_dropP ?_
      refine ⟨.ref ps, rfl, Or.inl ⟨rfl, xs, sq_of hps12⟩, ?_⟩
      have lenE : Ev (tOp (rI0 fun i j => .int (i + j)) (tCB (rLenS K) (tCons (tVar 5) tNil)) (tC (.int 1))) [some (.ref h), some (.bl ev), some (.ref bx), some (.int wy), some (.str (nmL f b 1)), some (.ref ps), c6] H12 (.int ((xs.length : Int) + 1)) := ev_I0 (g := fun i j => .int (i + j)) (ev_len (ev_var rfl) (sq_of hps12)) ev_c
      have l3 := trvs_len tvs
      refine ⟨_, rfl, lenE H12 (Ex.refl H12) _ fun H13 e13 => ⟨h, _, _, rfl, A12.ex e13, by omega, by omega, by omega, fun r8 H14 r80 r81 A14 k14 => ?_⟩⟩
      have n14 := (n12.ex e13).kp hbh k14
      refine ⟨_, rfl, bx, k', f, b, rfl, n14, by omega, f0, by omega, b0.1, b0.2, fun H15 n15 k15 => ?_⟩
      have hps15 : H15 ps = some (.lst xs) := k15 _ _ pb pb (k14 _ _ ph ph (e13 _ _ hps12))
      have tk15 : TK H12 H15 := ((TK.ex e13).trans (tk_bx (A12.ex e13) k14)).trans (tk_nb n14 k15)
      refine ⟨ps, xs, r8, _, rfl, rfl, hps15, sz_lt (by omega), r80, by omega, ?_⟩
      have tkP : TK H15 (upd H15 ps (.lst (xs.take r8.toNat ++ [V.str (nmL f b (k' + 1))] ++ xs.drop r8.toNat))) := TK.lst hps15
      refine hR _ _ ⟨_, ts.take r8.toNat ++ [.hand (nmL f b (k' + 1))] ++ ts.drop r8.toNat, k' + 1, rfl, mutA ((A14.kp hb k15).up (by omega)), mutN n15, mutK ((((k11.trans (kp_l k12)).trans (Kp.ex e13)).trans (kp_l k14)).trans (kp_r k15)), upd_same, trvs_tk tkP _ _ (trvs_ins (trvs_tk tk15 _ _ tvs12) (.hand _)), GIs.ins (mid := k') (by rw [List.take_append_drop]; exact gs) (GI.hand (by omega) (by omega)) (by simp only [Tr.size]; omega) (by omega), ?_, by omega, by omega⟩
      simp only [List.length_append, List.length_take, List.length_drop, List.length_singleton]
      omega
    · exact s_next (hR _ _ ⟨xs, ts, k', rfl, A12.up (by omega), n12, k11.trans (kp_l k12), hps12, tvs12, gs, l1, hk0, by omega⟩)
  intro σ' H12 hM
  obtain ⟨xs, ts, k', rfl, A12, n12, k12, hps12, tvs, gs, l1, hk0, hkw⟩ := hM
  refine s_retP ?_
  refine ⟨_, rfl, ?_⟩
  refine take_at rfl A12 (by omega) (by decide) (by decide) fun r9 H13 r90 r91 A13 k13 => ⟨1, r9, rfl, rfl, ?_⟩
  have hps13 : H13 ps = some (.lst xs) := k13 _ _ ph ph hps12
  refine ⟨_, rfl, ps, xs, rfl, Or.inl ⟨sq_of hps13, fun t ht => ⟨(by show 3 ≤ sizeLine; decide), fun g hg => ?_⟩⟩⟩
  have e14 := (Ex.new (o := .tup xs) ht).trans (Ex.new (o := .tup [.str (nmL f b 1), .int (1 + r9), .ref t]) hg)
  have tv : TrVs _ xs ts := trvs_tk ((tk_bx A12 k13).trans (TK.ex e14)) _ _ tvs
  have gg : GI f b 0 k' 3 (.grp (nmL f b 1) (1 + r9) ts) := GIs.grp (lo := 1) (d := 2) gs (fun z => by rw [z] at l1; cases l1) (by omega) (by omega) (by omega) hk0 (by omega) (by omega)
  refine q (.ref g) (nmL f b 1) (1 + r9) ts _ ((A13.ex e14).up (by omega)) (back ((k12.trans (kp_l k13)).trans (Kp.ex e14))) (.grp upd_same ((Ex.new hg) _ _ upd_same) tv) ⟨gg.ok, gg.dp, gg.nm, ?_, gg.nd hby (by omega), gg.ln⟩
  · have := gs.sz
    simp only [Tr.size]
    omega
end
/-! ### even plans, by the law -/
mutual
def gsT : Tr → List Tr
  | .hand _ => []
  | .grp n b ms => .grp n b ms :: gssT ms
def gssT : List Tr → List Tr
  | [] => []
  | t :: ts => gsT t ++ gssT ts
end
def nameT : Tr → Str
  | .hand n => n
  | .grp n _ _ => n
mutual
theorem gs_name : ∀ (t : Tr), ∀ u ∈ gsT t, nameT u ∈ t.gn
  | .hand _, u, h => by cases h
  | .grp n b ms, u, h => by
    simp only [gsT] at h
    simp only [Tr.gn]
    rcases List.mem_cons.mp h with rfl | h
    · exact List.mem_cons_self ..
    · exact List.mem_cons_of_mem _ (gss_name ms u h)
theorem gss_name : ∀ (ts : List Tr), ∀ u ∈ gssT ts, nameT u ∈ gns ts
  | [], u, h => by cases h
  | t :: ts, u, h => by
    simp only [gssT] at h
    simp only [gns]
    rcases List.mem_append.mp h with h | h
    · exact List.mem_append_left _ (gs_name t u h)
    · exact List.mem_append_right _ (gss_name ts u h)
end
mutual
theorem gs_fine : ∀ (t : Tr), t.ok → ∀ u ∈ gsT t, u.ok ∧ u.deep ≤ t.deep ∧ u.size ≤ t.size ∧ ∃ n b ms, u = .grp n b ms
  | .hand _, _, u, h => by cases h
  | .grp n b ms, ho, u, h => by
    simp only [gsT] at h
    rcases List.mem_cons.mp h with rfl | h
    · exact ⟨ho, Nat.le_refl _, Nat.le_refl _, _, _, _, rfl⟩
    · simp only [Tr.ok] at ho
      obtain ⟨a1, a2, a3, a4⟩ := gss_fine ms ho.2.2.2 u h
      simp only [Tr.deep, Tr.size]
      exact ⟨a1, by omega, by omega, a4⟩
theorem gss_fine : ∀ (ts : List Tr), oks ts → ∀ u ∈ gssT ts, u.ok ∧ u.deep ≤ deeps ts ∧ u.size ≤ sizes ts ∧ ∃ n b ms, u = .grp n b ms
  | [], _, u, h => by cases h
  | t :: ts, ho, u, h => by
    simp only [gssT] at h
    simp only [deeps, sizes]
    rcases List.mem_append.mp h with h | h
    · obtain ⟨a1, a2, a3, a4⟩ := gs_fine t ho.1 u h
      exact ⟨a1, by omega, by omega, a4⟩
    · obtain ⟨a1, a2, a3, a4⟩ := gss_fine ts ho.2 u h
      exact ⟨a1, by omega, by omega, a4⟩
end
mutual
theorem gs_len : ∀ t : Tr, (gsT t).length ≤ t.size
  | .hand _ => by simp [gsT]
  | .grp _ _ ms => by
    have := gss_len ms
    simp only [gsT, Tr.size, List.length_cons]
    omega
theorem gss_len : ∀ ts : List Tr, (gssT ts).length ≤ sizes ts
  | [] => by simp [gssT]
  | t :: ts => by
    have := gs_len t
    have := gss_len ts
    simp only [gssT, sizes, List.length_append]
    omega
end
theorem gss_take : ∀ {ts : List Tr} {i : Nat} {t : Tr}, ts[i]? = some t → gssT (ts.take (i + 1)) = gssT (ts.take i) ++ gsT t
  | u :: ts, 0, t, h => by
    cases h
    simp [gssT]
  | u :: ts, i + 1, t, h => by
    have := gss_take (ts := ts) (i := i) (t := t) (by simpa using h)
    simp only [List.take_succ_cons, gssT, this, List.append_assoc]
mutual
theorem hn_size : ∀ t : Tr, t.hn ≤ t.size
  | .hand _ => by simp [Tr.hn, Tr.size]
  | .grp _ _ ms => by
    have := hns_size ms
    simp only [Tr.hn, Tr.size]
    omega
theorem hns_size : ∀ ts : List Tr, hns ts ≤ sizes ts
  | [] => Nat.le_refl _
  | t :: ts => by
    have := hn_size t
    have := hns_size ts
    simp only [hns, sizes]
    omega
end
theorem inner_filter {n : Str} {b : Int} {ms : List Tr} (h : n ∉ gns ms) : (gsT (.grp n b ms)).filter (fun t => decide (nameT t ≠ n)) = gssT ms := by
  simp only [gsT]
  rw [List.filter_cons, if_neg (by simp [nameT])]
  rw [List.filter_eq_self]
  intro u hu
  refine decide_eq_true fun z => h ?_
  rw [← z]
  exact gss_name ms u hu
mutual
def hdT : Tr → List Str
  | .hand n => [n]
  | .grp _ _ ms => hdTs ms
def hdTs : List Tr → List Str
  | [] => []
  | t :: ts => hdT t ++ hdTs ts
end
mutual
theorem hdT_len : ∀ t : Tr, (hdT t).length = t.hn
  | .hand n => by simp [hdT, Tr.hn]
  | .grp n b ms => by simp only [hdT, Tr.hn, hdTs_len ms]
theorem hdTs_len : ∀ ts : List Tr, (hdTs ts).length = hns ts
  | [] => by simp [hdTs, hns]
  | t :: ts => by simp only [hdTs, hns, List.length_append, hdT_len t, hdTs_len ts]
end
theorem hdTs_take : ∀ {ts : List Tr} {i : Nat} {t : Tr}, ts[i]? = some t → hdTs (ts.take (i + 1)) = hdTs (ts.take i) ++ hdT t
  | u :: ts, 0, t, h => by
    cases h
    simp [hdTs]
  | u :: ts, i + 1, t, h => by
    have := hdTs_take (ts := ts) (i := i) (t := t) (by simpa using h)
    simp only [List.take_succ_cons, hdTs, this, List.append_assoc]
def spLH (d : Nat) : Sp := fun vs H Q _ => ∃ (v : V) (n : Str) (b : Int) (ms : List Tr), vs = [v] ∧ TrV H v (.grp n b ms) ∧ (Tr.grp n b ms).deep ≤ d ∧ (Tr.grp n b ms).size ≤ 1000 ∧ ∀ r H', Ex H H' → H' r = some (.lst ((hdTs ms).map V.str)) → Q (.ref r) H'
def spLG (d : Nat) : Sp := fun vs H Q _ => ∃ (v : V) (n : Str) (b : Int) (ms : List Tr), vs = [v] ∧ TrV H v (.grp n b ms) ∧ (Tr.grp n b ms).deep ≤ d ∧ (Tr.grp n b ms).size ≤ 1000 ∧ ∀ r xs H', H r = none → Ex H H' → H' r = some (.lst xs) → TrVs H' xs (gsT (.grp n b ms)) → Q (.ref r) H'
def spLT (d : Nat) : Sp := fun vs H Q _ => ∃ (v : V) (t : Tr), vs = [v] ∧ TrV H v t ∧ t.ok ∧ t.deep ≤ d ∧ d ≤ 4 ∧ t.size ≤ 1000 ∧ ∀ H', Ex H H' → Q (.int t.turn) H'
section
variable {P : Program} {w : World} {K : PySem.W.Frag} {mg : Str → Option Value} {base : Heap}
theorem lh_step (T : Tp w K mg) {d : Nat} {spR : Sp} (ih : FnOk P w K mg base CX0 d T.f__law_hands T.d__law_hands ["_law_plan_here"] spR) (hR : ∀ k, d = k + 1 → spR = spLH k) : FnOk P w K mg base CX0 (d + 1) T.f__law_hands T.d__law_hands ["_law_plan_here"] (spLH d) := by
  refine T.F__law_hands.ok sc__law_hands (fun vs H Q E h => ?_) (fun cdv A outer s H vs Q E hr h => ?_)
  · obtain ⟨v, n, b, ms, rfl, _⟩ := h
    rfl
  obtain ⟨v, n, b, ms, rfl, tv, hdp, hsz, q⟩ := h
  refine ⟨_, (pss_cons (ps_set (i := 1) sc__law_hands.nd rfl (Or.inl rfl) (pe_lst pa_nil))
  (pss_cons (ps_for PassesOwn.never rfl (piTK (K := K) rfl (pe_ix (ixTK (K := K) rfl) (pv 0) pe_int (fun _ _ => rfl))) (pg_name (i := 2) sc__law_hands.nd rfl (Or.inl rfl)) (pss_one (ps_set (i := 1) sc__law_hands.nd rfl (Or.inl rfl) (pe_op op_cat (pv 1) (pe_ifExp (pt_val (pe_callB (isiK (K := K) rfl) rfl T.z_isinstance (by decide +kernel) (pa_cons (pv 2) (pa_cons (pe_bltn (v := .ty "str") rfl T.z_str (by decide +kernel) rfl) pa_nil (star1 rfl)) (star1 rfl)) (by decide) (by decide) (star1 rfl) (starAll rfl))) (pe_lst (pa_cons (pv 2) pa_nil (star1 rfl))) (pe_call ih hr rfl T.m__law_hands T.F__law_hands.kp (b__law_hands T) .nil pass0 (pa_cons (pv 2) pa_nil (star1 rfl)) (by decide) (star1 rfl) (starAll rfl)))))))
  (pss_one (ps_ret (pv 1))))), ?_⟩
  cases tv with
  | @grp a m _ _ xs _ h1 h2 h3 =>
    obtain ⟨k, rfl⟩ : ∃ k, d = k + 1 := ⟨d - 1, by simp only [Tr.deep] at hdp; omega⟩
    have eR := hR k rfl
    subst eR
    have hsz2 : sizes ms ≤ 1000 := by simp only [Tr.size] at hsz; omega
    have hdp2 : deeps ms ≤ k := by simp only [Tr.deep] at hdp; omega
    refine q_asgL (xs := []) (fun H2 e2 Q' q' => ⟨(by show 0 ≤ sizeLine; decide), fun p hp => q' p _ hp (Ex.new hp) upd_same⟩) fun r0 H1 hr0 e1 h10 => ?_
    refine q_forT (K := K) (a := m) (xs := xs) (ev_ixT (ev_var rfl) ev_c (st_of (e1 _ _ h1)) rfl) (st_of (e1 _ _ h2)) (fun i σ' H' => Ex H H' ∧ ∃ r c, σ' = [some (.ref a), some (.ref r), c] ∧ H' r = some (.lst ((hdTs (ms.take i)).map V.str))) ?_ ?_ ?_ ?_
    · intro H2 e2
      exact ⟨e1.trans e2, r0, none, rfl, e2 _ _ h10⟩
    · intro i σ' H' _ hP
      exact st_of (hP.1 _ _ h2)
    · intro i x σ' H2 hx hP
      obtain ⟨e2, r, c, rfl, hry⟩ := hP
      obtain ⟨t, ht, tv⟩ := trvs_get h3 hx
      have tv2 := trv_tk (TK.ex e2) t x tv
      have s1 := sizes_mem ht
      have s2 := deeps_mem ht
      have s3 := hn_size t
      have l1 := hdTs_len (ms.take i)
      have l2 := hdT_len t
      have s4 : hns (ms.take i) ≤ 1000 := Nat.le_trans (hns_size _) (Nat.le_trans (sizes_take ms i) hsz2)
      refine s_asgP ?_
      refine ⟨_, rfl, ?_⟩
      refine (et_B (ev_isHand (ev_var rfl) tv2)) H2 (Ex.refl H2) _ fun H3 e3 => ?_
      refine ite2 (fun hb => ?_) (fun hb => ?_)
      · cases tv2 with
        | hand nm =>
          refine ⟨_, rfl, (by show 1 ≤ sizeLine; decide), fun p hp => ⟨r, p, _, _, rfl, rfl, (Ex.new hp) _ _ (e3 _ _ hry), upd_same, sz_of (by simp; omega), fun r2 hr2 => ?_⟩⟩
          refine ⟨((e2.trans e3).trans (Ex.new hp)).trans (Ex.new hr2), r2, _, rfl, ?_⟩
          rw [upd_same, hdTs_take ht, List.map_append]
          rfl
        | grp _ _ _ => cases hb
      · cases tv2 with
        | hand nm => exact absurd rfl hb
        | @grp a' m' n' b' xs' ms' g1 g2 g3 =>
          refine ⟨_, rfl, .ref a', n', b', ms', rfl, trv_tk (TK.ex e3) _ _ (.grp g1 g2 g3), by omega, by omega, fun r1 H4 e4 h4 => ⟨r, r1, _, _, rfl, rfl, e4 _ _ (e3 _ _ hry), h4, ?_, fun r2 hr2 => ?_⟩⟩
          · simp only [hdT] at l2
            exact sz_of (by rw [List.length_map, List.length_map]; omega)
          refine ⟨((e2.trans e3).trans e4).trans (Ex.new hr2), r2, _, rfl, ?_⟩
          rw [upd_same, hdTs_take ht, List.map_append]
          rfl
    · intro σ' H2 hP
      obtain ⟨e2, r, c, rfl, hry⟩ := hP
      rw [trvs_len h3, List.take_length] at hry
      exact s_ret (v := .ref r) (ev_var rfl) fun H3 e3 => q r H3 (e2.trans e3) (e3 _ _ hry)
theorem lh_all (T : Tp w K mg) : ∀ d, FnOk P w K mg base CX0 (d + 1) T.f__law_hands T.d__law_hands ["_law_plan_here"] (spLH d)
  | 0 => lh_step T (spR := fun _ _ _ _ => False) ⟨fun _ _ _ _ h => h.elim, fun _ _ _ _ _ _ _ _ _ _ _ _ _ h => h.elim⟩ (fun k h => by cases h)
  | d + 1 => lh_step T (lh_all T d) (fun k h => by cases h; rfl)
theorem ok__law_hands (T : Tp w K mg) : FnOk P w K mg base CX0 5 T.f__law_hands T.d__law_hands ["_law_plan_here"] (spLH 4) := lh_all T 4
theorem lg_step (T : Tp w K mg) {d : Nat} {spR : Sp} (ih : FnOk P w K mg base CX0 d T.f__law_groups T.d__law_groups ["_law_plan_here"] spR) (hR : ∀ k, d = k + 1 → spR = spLG k) : FnOk P w K mg base CX0 (d + 1) T.f__law_groups T.d__law_groups ["_law_plan_here"] (spLG d) := by
  refine T.F__law_groups.ok sc__law_groups (fun vs H Q E h => ?_) (fun cdv A outer s H vs Q E hr h => ?_)
  · obtain ⟨v, n, b, ms, rfl, _⟩ := h
    rfl
  obtain ⟨v, n, b, ms, rfl, tv, hdp, hsz, q⟩ := h
  refine ⟨_, (pss_cons (ps_set (i := 1) sc__law_groups.nd rfl (Or.inl rfl) (pe_lst (pa_cons (pv 0) pa_nil (star1 rfl))))
  (pss_cons (ps_for PassesOwn.never rfl (piTK (K := K) rfl (pe_ix (ixTK (K := K) rfl) (pv 0) pe_int (fun _ _ => rfl))) (pg_name (i := 2) sc__law_groups.nd rfl (Or.inl rfl)) (pss_one (ps_if (pt_not (pt_val (pe_callB (isiK (K := K) rfl) rfl T.z_isinstance (by decide +kernel) (pa_cons (pv 2) (pa_cons (pe_bltn (v := .ty "str") rfl T.z_str (by decide +kernel) rfl) pa_nil (star1 rfl)) (star1 rfl)) (by decide) (by decide) (star1 rfl) (starAll rfl)))) (pss_one (ps_set (i := 1) sc__law_groups.nd rfl (Or.inl rfl) (pe_op op_cat (pv 1) (pe_call ih hr rfl T.m__law_groups T.F__law_groups.kp (b__law_groups T) .nil pass0 (pa_cons (pv 2) pa_nil (star1 rfl)) (by decide) (star1 rfl) (starAll rfl))))) pss_nil)))
  (pss_one (ps_ret (pv 1))))), ?_⟩
  have tv0 := tv
  cases tv with
  | @grp a m _ _ xs _ h1 h2 h3 =>
    obtain ⟨k, rfl⟩ : ∃ k, d = k + 1 := ⟨d - 1, by simp only [Tr.deep] at hdp; omega⟩
    have eR := hR k rfl
    subst eR
    have hsz2 : sizes ms ≤ 1000 := by simp only [Tr.size] at hsz; omega
    have hdp2 : deeps ms ≤ k := by simp only [Tr.deep] at hdp; omega
    refine q_asgL (xs := [.ref a]) (fun H2 e2 Q' q' => ⟨_, rfl, (by show 1 ≤ sizeLine; decide), fun p hp => q' p _ hp (Ex.new hp) upd_same⟩) fun r0 H1 hr0 e1 h10 => ?_
    refine q_forT (K := K) (a := m) (xs := xs) (ev_ixT (ev_var rfl) ev_c (st_of (e1 _ _ h1)) rfl) (st_of (e1 _ _ h2)) (fun i σ' H' => Ex H H' ∧ ∃ r ys c, σ' = [some (.ref a), some (.ref r), c] ∧ H r = none ∧ H' r = some (.lst ys) ∧ TrVs H' ys (.grp n b ms :: gssT (ms.take i))) ?_ ?_ ?_ ?_
    · intro H2 e2
      exact ⟨e1.trans e2, r0, [.ref a], none, rfl, hr0, e2 _ _ h10, .cons (trv_tk (TK.ex (e1.trans e2)) _ _ tv0) .nil⟩
    · intro i σ' H' _ hP
      exact st_of (hP.1 _ _ h2)
    · intro i x σ' H2 hx hP
      obtain ⟨e2, r, ys, c, rfl, hr0, hry, tvs⟩ := hP
      obtain ⟨t, ht, tv⟩ := trvs_get h3 hx
      have tv2 := trv_tk (TK.ex e2) t x tv
      have s1 := sizes_mem ht
      have s2 := deeps_mem ht
      have s3 := gs_len t
      have s4 : (gssT (ms.take i)).length ≤ 1000 := Nat.le_trans (gss_len _) (Nat.le_trans (sizes_take ms i) hsz2)
      have s5 := trvs_len tvs
      rw [List.length_cons] at s5
      refine s_when (et_not (et_B (ev_isHand (ev_var rfl) tv2))) (fun hb H3 e3 => ?_) (fun hb H3 e3 => ?_)
      · cases tv2 with
        | hand nm => cases hb
        | @grp a' m' n' b' xs' ms' g1 g2 g3 =>
          refine s_asgP ?_
          refine ⟨_, rfl, _, rfl, .ref a', n', b', ms', rfl, trv_tk (TK.ex e3) _ _ (.grp g1 g2 g3), by omega, by omega, fun r1 zs H4 hr1 e4 h4 tvz => ⟨r, r1, ys, zs, rfl, rfl, e4 _ _ (e3 _ _ hry), h4, sz_of (by have := trvs_len tvz; omega), fun r2 hr2 => ?_⟩⟩
          refine ⟨((e2.trans e3).trans e4).trans (Ex.new hr2), r2, _, _, rfl, fresh_back ((e2.trans e3).trans e4) hr2, upd_same, ?_⟩
          rw [gss_take ht]
          exact trvs_tk (TK.new hr2) _ _ (trvs_app (ts := .grp n b ms :: gssT (ms.take i)) (trvs_tk (TK.ex (e3.trans e4)) _ _ tvs) tvz)
      · cases tv2 with
        | hand nm =>
          refine ⟨e2.trans e3, r, ys, _, rfl, hr0, e3 _ _ hry, ?_⟩
          rw [gss_take ht]
          simp only [gsT, List.append_nil]
          exact trvs_tk (TK.ex e3) _ _ tvs
        | grp _ _ _ => cases hb
    · intro σ' H2 hP
      obtain ⟨e2, r, ys, c, rfl, hr0, hry, tvs⟩ := hP
      rw [trvs_len h3, List.take_length] at tvs
      exact s_ret (v := .ref r) (ev_var rfl) fun H3 e3 => q r ys H3 hr0 (e2.trans e3) (e3 _ _ hry) (by
        simp only [gsT]
        exact trvs_tk (TK.ex e3) _ _ tvs)
theorem lg_all (T : Tp w K mg) : ∀ d, FnOk P w K mg base CX0 (d + 1) T.f__law_groups T.d__law_groups ["_law_plan_here"] (spLG d)
  | 0 => lg_step T (spR := fun _ _ _ _ => False) ⟨fun _ _ _ _ h => h.elim, fun _ _ _ _ _ _ _ _ _ _ _ _ _ h => h.elim⟩ (fun k h => by cases h)
  | d + 1 => lg_step T (lg_all T d) (fun k h => by cases h; rfl)
theorem ok__law_groups (T : Tp w K mg) : FnOk P w K mg base CX0 5 T.f__law_groups T.d__law_groups ["_law_plan_here"] (spLG 4) := lg_all T 4
theorem lt_step (T : Tp w K mg) {d : Nat} {spR : Sp} (ih : FnOk P w K mg base CX0 (d + 5) T.f__law_turn T.d__law_turn ["_law_member"] spR) (hR : ∀ k, d = k + 1 → spR = spLT k) : FnOk P w K mg base CX0 (d + 6) T.f__law_turn T.d__law_turn ["_law_member"] (spLT d) := by
  refine T.F__law_turn.ok sc__law_turn (fun vs H Q E h => ?_) (fun cdv A outer s H vs Q E hr h => ?_)
  · obtain ⟨v, t, rfl, _⟩ := h
    rfl
  obtain ⟨v, t, rfl, tv, hok, hdp, hd, hsz, q⟩ := h
  refine ⟨_, (pss_cons (ps_if (PW.pt (pw_or (pt_val (pe_callB (isiK (K := K) rfl) rfl T.z_isinstance (by decide +kernel) (pa_cons (pv 0) (pa_cons (pe_bltn (v := .ty "str") rfl T.z_str (by decide +kernel) rfl) pa_nil (star1 rfl)) (star1 rfl)) (by decide) (by decide) (star1 rfl) (starAll rfl))) (pw_or1 (pt_cmpR op_eq (pe_callB (lenK (K := K) rfl) rfl T.z_len PySem.boot_len (pa_cons (pe_call (ok__law_hands T) (hr.mono (by omega)) rfl T.m__law_hands T.F__law_hands.kp (b__law_hands T) .nil pass0 (pa_cons (pv 0) pa_nil (star1 rfl)) (by decide) (star1 rfl) (starAll rfl)) pa_nil (star1 rfl)) (by decide) (by decide) (star1 rfl) (starAll rfl)) pe_int (nomark _))))) (pss_one (ps_ret pe_int)) pss_nil)
  (pss_one (ps_ret (pe_op op_mul (pe_ix (ixTK (K := K) rfl) (pv 0) pe_int (fun _ _ => rfl)) (pe_callB (maxK (K := K) rfl rfl) rfl T.z_max (by decide +kernel) (pa_cons (pe_lc (own := [("_law_inner", 1)]) (g := gName 1) (tt := tYes) rfl sc__law_turn.nd (piTK (K := K) rfl (pe_ix (ixTK (K := K) rfl) (pv 0) pe_int (fun _ _ => rfl))) (blkOk_by (N := N__law_turn) (sc := defScope s__law_turn) (by decide +kernel)) (fun _ _ _ _ _ => (pg_name (i := 1) sc__law_turn.nd rfl (Or.inl rfl))) (fun _ _ _ _ _ => pts_nil) (fun _ _ _ _ _ => (pe_call ih hr rfl T.m__law_turn T.F__law_turn.kp (b__law_turn T) .nil pass0 (pa_cons (pv 1) pa_nil (star1 rfl)) (by decide) (star1 rfl) (starAll rfl)))) pa_nil (star1 rfl)) (by decide) (by decide) (star1 rfl) (starAll rfl)))))), ?_⟩
  have t1 : EvT (tB (tCB (rIsi K) (tCons (tVar 0) (tCons (tC (.ty "str")) tNil)))) (start N__law_turn [v]) H t.isHand := et_B (ev_isHand (ev_var rfl) tv)
  cases tv with
  | hand n =>
    refine q_when (b := true) (et_is (et_or (b := false) t1 fun h => by cases h) rfl) (fun _ H1 e1 => s_ret ev_c fun H2 e2 => q H2 (e1.trans e2)) (fun h => by cases h)
  | @grp a m n b xs ms h1 h2 h3 =>
    have tv : TrV H (.ref a) (.grp n b ms) := .grp h1 h2 h3
    obtain ⟨k, rfl⟩ : ∃ k, d = k + 1 := ⟨d - 1, by simp only [Tr.deep] at hdp; omega⟩
    have eR := hR k rfl
    subst eR
    have hlen : Ev (tCB (rLenS K) (tCons (tCall (spLH 4) [] E0 (tCons (tVar 0) tNil)) tNil)) (start N__law_turn [.ref a]) H (.int (hns ms : Int)) := by
      intro H1 e1 Q' q'
      refine ⟨_, rfl, .ref a, n, b, ms, rfl, trv_tk (TK.ex e1) _ _ tv, by omega, hsz, fun r H2 e2 hr => ⟨r, _, rfl, Or.inl (sq_of hr), ?_⟩⟩
      rw [List.length_map, hdTs_len]
      exact q' H2 e2
    refine q_when (b := decide (hns ms = 1)) (et_is (et_or (a := false) t1 fun _ => et_test (ev_eq hlen ev_c rfl)) ?_) (fun hb H1 e1 => ?_) (fun hb H1 e1 => ?_)
    · rw [Bool.false_or]
      refine decide_eq_decide.mpr ⟨fun z => ?_, fun z => by rw [z]; rfl⟩
      injection z with z
      omega
    · have hb := of_decide_eq_true hb
      refine s_ret ev_c fun H2 e2 => ?_
      have q2 := q H2 (e1.trans e2)
      simp only [Tr.turn] at q2
      rw [if_pos hb] at q2
      exact q2
    · have hb := of_decide_eq_false hb
      simp only [Tr.ok] at hok
      have hl := trvs_len h3
      have hsz2 : sizes ms ≤ 1000 := by simp only [Tr.size] at hsz; omega
      have hls := len_sizes ms
      have hdp2 : deeps ms ≤ k := by simp only [Tr.deep] at hdp; omega
      refine s_ret (ev_is (ev_I (C := CMul) (g := fun i j => .int (i * j)) (i := b) (j := maxs ms) (Or.inl ⟨by omega, by omega⟩) (ev_ixT (v := .int b) (ev_var rfl) ev_c (st_of (e1 _ _ h1)) rfl) (ev_maxN (ns := ms.map Tr.turn) ?_ (max_in hok.2.2.2 hok.2.2.1) max_le)) (w := .int (Tr.grp n b ms).turn) ?_) fun H2 e2 => q H2 (e1.trans e2)
      · have c := el_lcT (K := K) (σ := start N__law_turn [.ref a]) (H := H1) (a := m) (xs := xs) (tl := tOp (rIxT K) (tVar 0) (tC (.int 2))) (tt := tYes) (te := tCall (spLT k) [] E0 (tCons (tVar 1) tNil)) (j := 1) (vs := [1]) (fun _ => true) (fun i => .int (ms.getD i (.hand "")).turn) (ev_ixT (ev_var rfl) ev_c (st_of (e1 _ _ h1)) rfl) (st_of (e1 _ _ h2)) (by omega) (fun x => rfl) (fun i x H1 e1 hx => et_yes) (fun i x H2 e2 hx _ => ?_)
        · rw [given_all, hl] at c
          have e : (List.range ms.length).map (fun i => V.int (ms.getD i (.hand "")).turn) = (ms.map Tr.turn).map V.int := by
            rw [map_range (fun t => V.int t.turn), List.map_map]
            rfl
          rw [e] at c
          exact c
        · obtain ⟨u, hu, tu⟩ := trvs_get h3 hx
          have : ms.getD i (.hand "") = u := by simp [List.getD_eq_getElem?_getD, hu]
          rw [this]
          have s1 := sizes_mem hu
          have s2 := deeps_mem hu
          exact ev_call (ea_cons (ev_var rfl) ea_nil) fun H3 e3 Q' q' E' => ⟨x, u, rfl, trv_tk (TK.ex ((e1.trans e2).trans e3)) _ _ tu, oks_get hok.2.2.2 hu, by omega, by omega, by omega, q'⟩
      · simp only [Tr.turn]
        rw [if_neg hb]
theorem lt_all (T : Tp w K mg) : ∀ d, FnOk P w K mg base CX0 (d + 6) T.f__law_turn T.d__law_turn ["_law_member"] (spLT d)
  | 0 => lt_step T (spR := fun _ _ _ _ => False) ⟨fun _ _ _ _ h => h.elim, fun _ _ _ _ _ _ _ _ _ _ _ _ _ h => h.elim⟩ (fun k h => by cases h)
  | d + 1 => lt_step T (lt_all T d) (fun k h => by cases h; rfl)
theorem ok__law_turn (T : Tp w K mg) : FnOk P w K mg base CX0 10 T.f__law_turn T.d__law_turn ["_law_member"] (spLT 4) := lt_all T 4
end
/-! ### turns, by the program -/
mutual
def trnT : Tr → List (Str × Int)
  | .hand n => [(n, 1)]
  | .grp n b ms => (n, (Tr.grp n b ms).turn) :: trnTs ms
def trnTs : List Tr → List (Str × Int)
  | [] => []
  | t :: ts => trnT t ++ trnTs ts
end
mutual
theorem trn_keys : ∀ t : Tr, (trnT t).map (·.1) = t.nms
  | .hand n => by simp [trnT, Tr.nms]
  | .grp n b ms => by simp only [trnT, Tr.nms, List.map_cons, trns_keys ms]
theorem trns_keys : ∀ ts : List Tr, (trnTs ts).map (·.1) = nmss ts
  | [] => by simp [trnTs, nmss]
  | t :: ts => by simp only [trnTs, nmss, List.map_append, trn_keys t, trns_keys ts]
end
theorem trns_take : ∀ {ts : List Tr} {i : Nat} {t : Tr}, ts[i]? = some t → trnTs (ts.take (i + 1)) = trnTs (ts.take i) ++ trnT t
  | u :: ts, 0, t, h => by
    cases h
    simp [trnTs]
  | u :: ts, i + 1, t, h => by
    have := trns_take (ts := ts) (i := i) (t := t) (by simpa using h)
    simp only [List.take_succ_cons, trnTs, this, List.append_assoc]
mutual
theorem trn_hd : ∀ t : Tr, ∀ n ∈ hdT t, (n, (1 : Int)) ∈ trnT t
  | .hand n, m, h => by
    simp only [hdT, List.mem_singleton] at h
    rw [h]
    exact List.mem_cons_self
  | .grp n b ms, m, h => by
    simp only [hdT] at h
    simp only [trnT]
    exact List.mem_cons_of_mem _ (trns_hd ms m h)
theorem trns_hd : ∀ ts : List Tr, ∀ n ∈ hdTs ts, (n, (1 : Int)) ∈ trnTs ts
  | [], m, h => by cases h
  | t :: ts, m, h => by
    simp only [hdTs] at h
    simp only [trnTs]
    rcases List.mem_append.mp h with h | h
    · exact List.mem_append_left _ (trn_hd t m h)
    · exact List.mem_append_right _ (trns_hd ts m h)
end
mutual
theorem trn_gs : ∀ t : Tr, ∀ u ∈ gsT t, (nameT u, u.turn) ∈ trnT t
  | .hand n, u, h => by cases h
  | .grp n b ms, u, h => by
    simp only [gsT] at h
    simp only [trnT]
    rcases List.mem_cons.mp h with rfl | h
    · exact List.mem_cons_self
    · exact List.mem_cons_of_mem _ (trns_gs ms u h)
theorem trns_gs : ∀ ts : List Tr, ∀ u ∈ gssT ts, (nameT u, u.turn) ∈ trnTs ts
  | [], u, h => by cases h
  | t :: ts, u, h => by
    simp only [gssT] at h
    simp only [trnTs]
    rcases List.mem_append.mp h with h | h
    · exact List.mem_append_left _ (trn_gs t u h)
    · exact List.mem_append_right _ (trns_gs ts u h)
end
theorem trns_app : ∀ a c : List Tr, trnTs (a ++ c) = trnTs a ++ trnTs c
  | [], _ => rfl
  | t :: a, c => by simp only [List.cons_append, trnTs, trns_app a c, List.append_assoc]
theorem nmss_len (ts : List Tr) : (nmss ts).length = sizes ts := by
  have := nms_len (.grp "" 0 ts)
  simp only [Tr.nms, Tr.size, List.length_cons] at this
  omega
theorem dm_put {α : Type} {R : V → α → Prop} {H : Hp} {d : Addr} {xs : List (Str × α)} {n : Str} {x : α} {v : V} (h : Dm R H d xs) (hn : n ∉ xs.map (·.1)) (hl : xs.length < 1000) (hv : R v x) : ∃ H', DPut H d (.str n) v H' ∧ (∀ a, a ≠ d → H' a = H a) ∧ Dm R H' d (xs ++ [(n, x)]) := by
  obtain ⟨kvs, h1, h2, h3⟩ := h
  have ln := paired_len h2
  refine ⟨upd H d (.dK (putK kvs (.inr n) v)), Or.inl ⟨kvs, .inr n, h1, rfl, sz_lt (by omega), rfl⟩, fun a ne => upd_ne ne, _, upd_same, kr_new h2 hn hv, ?_⟩
  rw [List.length_append]
  show xs.length + 1 ≤ 1000
  omega
theorem s_dput {td ty tv : TE} {D : Ends} {σ : L2.St} {H : Hp} (h : tv σ H fun v H1 => td σ H1 fun x H2 => ty σ H2 fun y H3 => ∃ a H4, x = .ref a ∧ DPut H3 a y v H4 ∧ D.nx σ H4) : sDPut td ty tv D σ H := h
theorem s_ifP {t : TT} {tu tw : TS} {D : Ends} {σ : L2.St} {H : Hp} (h : t σ H fun c H1 => if c = true then tu D σ H1 else tw D σ H1) : tIfS t tu tw D σ H := h
def spTrn (d : Nat) : Sp := fun vs H Q _ => ∃ (v : V) (n : Str) (b : Int) (ms : List Tr), vs = [v] ∧ TrV H v (.grp n b ms) ∧ (Tr.grp n b ms).ok ∧ (Tr.grp n b ms).deep ≤ d ∧ d ≤ 4 ∧ (Tr.grp n b ms).size ≤ 500 ∧ (nmss ms).Nodup ∧ ∀ D H', Ex H H' → H D = none → Dm BdV H' D (trnTs ms) → Q (.ref D) H'
section
variable {P : Program} {w : World} {K : PySem.W.Frag} {mg : Str → Option Value} {base : Heap}
theorem ti_step (T : Tp w K mg) {d : Nat} {spR : Sp} (ih : FnOk P w K mg base CX0 (d + 19) T.f_turns_in T.d_turns_in ["group"] spR) (hR : ∀ k, d = k + 1 → spR = spTrn k) : FnOk P w K mg base CX0 (d + 20) T.f_turns_in T.d_turns_in ["group"] (spTrn d) := by
  refine T.F_turns_in.ok sc_turns_in (fun vs H Q E h => ?_) (fun cdv A outer s H vs Q E hr h => ?_)
  · obtain ⟨v, n, b, ms, rfl, _⟩ := h
    rfl
  obtain ⟨v, n, b, ms, rfl, tv, tok, hdp, hd4, hsz, nd, q⟩ := h
  refine ⟨_, (pss_cons (ps_set (i := 1) sc_turns_in.nd rfl (Or.inl rfl) pe_dnewK)
  (pss_cons (ps_for PassesOwn.never rfl (piTK (K := K) rfl (pe_ix (ixTK (K := K) rfl) (pv 0) pe_int (fun _ _ => rfl))) (pg_name (i := 2) sc_turns_in.nd rfl (Or.inl rfl)) (pss_one (ps_if (pt_val (pe_callB (isiK (K := K) rfl) rfl T.z_isinstance (by decide +kernel) (pa_cons (pv 2) (pa_cons (pe_bltn (v := .ty "str") rfl T.z_str (by decide +kernel) rfl) pa_nil (star1 rfl)) (star1 rfl)) (by decide) (by decide) (star1 rfl) (starAll rfl))) (pss_one (ps_dput (hu_of hr) (pv 1) (pv 2) pe_int rfl)) (pss_cons (ps_dput (hu_of hr) (pv 1) (pe_ix (ixTK (K := K) rfl) (pv 2) pe_int (fun _ _ => rfl)) (pe_call (ok_member_turn T) (hr.mono (by omega)) rfl T.m_member_turn T.F_member_turn.kp (b_member_turn T) .nil pass0 (pa_cons (pv 2) pa_nil (star1 rfl)) (by decide) (star1 rfl) (starAll rfl)) rfl)
  (pss_one (ps_expr (pe_bm PySem.F.plainAttrs_dict PySem.F.slot_dict_update PySem.F.type_dict_update mt_updD (pv 1) (pa_cons (pe_call ih hr rfl T.m_turns_in T.F_turns_in.kp (b_turns_in T) .nil pass0 (pa_cons (pv 2) pa_nil (star1 rfl)) (by decide) (star1 rfl) (starAll rfl)) pa_nil (star1 rfl)))))))))
  (pss_one (ps_ret (pv 1))))), ?_⟩
  cases tv with
  | @grp a m _ _ xs _ h1 h2 h3 =>
    obtain ⟨k, rfl⟩ : ∃ k, d = k + 1 := ⟨d - 1, by simp only [Tr.deep] at hdp; omega⟩
    have eR := hR k rfl
    subst eR
    simp only [Tr.ok] at tok
    have hsz2 : sizes ms ≤ 500 := by simp only [Tr.size] at hsz; omega
    have hdp2 : deeps ms ≤ k := by simp only [Tr.deep] at hdp; omega
    refine q_asgP ?_
    refine fun D hD => ?_
    have e0 := Ex.new (o := .dK []) hD
    have d0 : Dm BdV (upd H D (.dK [])) D [] := ⟨[], upd_same, .nil, Nat.zero_le _⟩
    show tSeq _ _ _ _ (upd H D (.dK []))
    generalize upd H D (.dK []) = H0 at e0 d0 ⊢
    refine q_forT (K := K) (a := m) (xs := xs) (ev_ixT (ev_var rfl) ev_c (st_of (e0 _ _ h1)) rfl) (st_of (e0 _ _ h2)) (fun i σ' H' => Ex H H' ∧ ∃ c, σ' = [some (.ref a), some (.ref D), c] ∧ Dm BdV H' D (trnTs (ms.take i))) ?_ ?_ ?_ ?_
    · intro H2 e2
      exact ⟨e0.trans e2, none, rfl, d0.st (fun o z => e2 _ _ z) (fun _ _ z => z)⟩
    · intro i σ' H' _ hP
      exact st_of (hP.1 _ _ h2)
    · rintro i x σ' H2 hx ⟨e2, c, rfl, d2⟩
      obtain ⟨t, ht, tv⟩ := trvs_get h3 hx
      have il := (List.getElem?_eq_some_iff.mp ht).1
      have tv2 := trv_tk (TK.ex e2) t x tv
      have s1 := sizes_mem ht
      have s2 := deeps_mem ht
      have tk := trns_take ht
      have ndt : ((trnTs (ms.take i) ++ trnT t).map (·.1)).Nodup := by
        have e : trnTs ms = trnTs (ms.take (i + 1)) ++ trnTs (ms.drop (i + 1)) := by rw [← trns_app, List.take_append_drop]
        have h := trns_keys ms
        rw [e, tk, List.map_append] at h
        rw [← h] at nd
        exact (List.nodup_append.mp nd).1
      have ll : (trnTs (ms.take i)).length ≤ 500 := by
        have h := congrArg List.length (trns_keys (ms.take i))
        rw [List.length_map, nmss_len] at h
        have := sizes_take ms i
        omega
      refine s_ifP ?_
      refine (et_B (ev_isHand (ev_var rfl) tv2)) H2 (Ex.refl H2) _ fun H3 e3 => ?_
      have d3 : Dm BdV H3 D (trnTs (ms.take i)) := d2.st (fun o z => e3 _ _ z) (fun _ _ z => z)
      refine ite2 (fun hb => ?_) (fun hb => ?_)
      · cases tv2 with
        | hand nm =>
          rw [List.map_append, List.nodup_append] at ndt
          obtain ⟨H4, dp, fr, d4⟩ := dm_put (n := nm) (x := 1) (v := .int 1) d3 (fun z => ndt.2.2 nm z nm (by simp [trnT]) rfl) (by omega) rfl
          refine s_dput ⟨_, rfl, _, rfl, D, H4, rfl, dp, ?_⟩
          refine ⟨fun c' o hc => ?_, _, rfl, by rw [tk]; exact d4⟩
          have : c' ≠ D := fun z => by rw [z, hD] at hc; cases hc
          rw [fr _ this]
          exact e3 _ _ (e2 _ _ hc)
        | grp _ _ _ => cases hb
      · cases tv2 with
        | hand nm => exact absurd rfl hb
        | @grp a' m' n' b' xs' ms' g1 g2 g3 =>
          have tok' := oks_get tok.2.2.2 ht
          have tvg : TrV H2 (.ref a') (.grp n' b' ms') := .grp g1 g2 g3
          have nd1 := ndt
          rw [List.map_append, List.nodup_append] at nd1
          refine q_dputP ?_
          refine ⟨_, rfl, .ref a', .grp n' b' ms', rfl, trv_tk (TK.ex e3) _ _ tvg, tok', by omega, by omega, by omega, fun H4 e4 => ?_⟩
          have d4 : Dm BdV H4 D (trnTs (ms.take i)) := d3.st (fun o z => e4 _ _ z) (fun _ _ z => z)
          have e34 := e3.trans e4
          refine ⟨_, rfl, ?_⟩
          refine (ev_ixT (v := .str n') (ev_var rfl) ev_c (st_of (e34 _ _ g1)) rfl) H4 (Ex.refl H4) _ fun H6 e6 => ?_
          have d6 : Dm BdV H6 D (trnTs (ms.take i)) := d4.st (fun o z => e6 _ _ z) (fun _ _ z => z)
          obtain ⟨H5, dp, fr, d5⟩ := dm_put (n := n') (x := (Tr.grp n' b' ms').turn) (v := .int (Tr.grp n' b' ms').turn) d6 (fun z => nd1.2.2 n' z n' (by simp [trnT]) rfl) (by omega) rfl
          refine ⟨D, H5, rfl, dp, ?_⟩
          have e36 := e34.trans e6
          have fr5 : ∀ c' o, c' ≠ D → H2 c' = some o → H5 c' = some o := fun c' o ne hc => by
            rw [fr _ ne]
            exact e36 _ _ hc
          have tk5 : TK H2 H5 := fun c' ys hc => fr5 c' _ (fun z => by
            obtain ⟨kvs, hk, _⟩ := d2
            rw [z, hk] at hc
            cases hc) hc
          have ex5 : Ex H H5 := fun c' o hc => fr5 c' o (fun z => by rw [z, hD] at hc; cases hc) (e2 _ _ hc)
          obtain ⟨kvs5, hk5, pk5, pl5⟩ := id d5
          refine s_dropP ?_
          refine ⟨_, rfl, Or.inr (Or.inr (Or.inl ⟨rfl, Or.inl ⟨kvs5, hk5⟩⟩)), ?_⟩
          have nd' : (nmss ms').Nodup := by
            have h := trn_keys (.grp n' b' ms')
            rw [h] at nd1
            simp only [Tr.nms, List.nodup_cons] at nd1
            exact nd1.2.1.2
          refine ⟨_, rfl, .ref a', n', b', ms', rfl, trv_tk tk5 _ _ tvg, tok', by omega, by omega, by omega, nd', fun D2 H7 e7 hD2 d7 => ?_⟩
          obtain ⟨more, hm7, pm7, pl7⟩ := d7
          have DD : D ≠ D2 := fun z => by rw [← z, hk5] at hD2; cases hD2
          have l7 := paired_len pm7
          have l5 := paired_len pk5
          refine ⟨D, D2, kvs5, more, rfl, rfl, e7 _ _ hk5, hm7, DD, sz_of (by omega), ?_⟩
          have e' : trnTs (ms.take (i + 1)) = (trnTs (ms.take i) ++ [(n', (Tr.grp n' b' ms').turn)]) ++ trnTs ms' := by
            rw [tk]
            simp [trnT]
          refine ⟨Ex.mut (ex5.trans e7) hD, _, rfl, _, upd_same, ?_, ?_⟩
          · rw [e']
            refine merge_new pk5 pm7 ?_
            rw [← e', tk]
            exact ndt
          · have h := congrArg List.length (trns_keys (ms.take (i + 1)))
            rw [List.length_map, nmss_len] at h
            have := sizes_take ms (i + 1)
            omega
    · rintro σ' H2 ⟨e2, c, rfl, d2⟩
      rw [trvs_len h3, List.take_length] at d2
      exact s_ret (v := .ref D) (ev_var rfl) fun H3 e3 => q D H3 (e2.trans e3) hD (d2.st (fun o z => e3 _ _ z) (fun _ _ z => z))
theorem ti_all (T : Tp w K mg) : ∀ d, FnOk P w K mg base CX0 (d + 20) T.f_turns_in T.d_turns_in ["group"] (spTrn d)
  | 0 => ti_step T (spR := fun _ _ _ _ => False) ⟨fun _ _ _ _ h => h.elim, fun _ _ _ _ _ _ _ _ _ _ _ _ _ h => h.elim⟩ (fun k h => by cases h)
  | d + 1 => ti_step T (ti_all T d) (fun k h => by cases h; rfl)
theorem ok_turns_in (T : Tp w K mg) : FnOk P w K mg base CX0 24 T.f_turns_in T.d_turns_in ["group"] (spTrn 4) := ti_all T 4
end
/-! ### what is known, and the turn of a name -/
theorem cons_raw {te : TE} {ta : TA} {σ : L2.St} {H : Hp} {Q : List V → Hp → Prop} (h : te σ H fun v H1 => ta σ H1 fun vs H2 => Q (v :: vs) H2) : tCons te ta σ H Q := h
theorem cb_raw {r : List V → Hp → VK → Prop} {ta : TA} {σ : L2.St} {H : Hp} {Q : VK} (h : ta σ H fun xs H1 => r xs H1 Q) : tCB r ta σ H Q := h
theorem call_raw {sp : Sp} {dvs : List V} {E : XK} {ta : TA} {σ : L2.St} {H : Hp} {Q : VK} (h : ta σ H fun vs H1 => sp (vs ++ dvs) H1 Q E) : tCall sp dvs E ta σ H Q := h
theorem tup_raw {ta : TA} {σ : L2.St} {H : Hp} {Q : VK} (h : ta σ H fun xs H1 => xs.length ≤ sizeLine ∧ ∀ p, H1 p = none → Q (.ref p) (upd H1 p (.tup xs))) : tTup ta σ H Q := h
theorem lst_raw {ta : TA} {σ : L2.St} {H : Hp} {Q : VK} (h : ta σ H fun xs H1 => xs.length ≤ sizeLine ∧ ∀ p, H1 p = none → Q (.ref p) (upd H1 p (.lst xs))) : tLst ta σ H Q := h
theorem op_raw {r : R2} {ta tb : TE} {σ : L2.St} {H : Hp} {Q : VK} (h : ta σ H fun x H1 => tb σ H1 fun y H2 => r x y H2 Q) : tOp r ta tb σ H Q := h
theorem tn_raw {σ : L2.St} {H : Hp} {Q : List V → Hp → Prop} (h : Q [] H) : tNil σ H Q := h
theorem tc_raw {v : V} {σ : L2.St} {H : Hp} {Q : VK} (h : Q v H) : tC v σ H Q := h
theorem tB_raw {te : TE} {σ : L2.St} {H : Hp} {Q : Bool → Hp → Prop} (h : te σ H fun x H1 => ∃ c, x = .bl c ∧ Q c H1) : tB te σ H Q := h
theorem tst_raw {te : TE} {σ : L2.St} {H : Hp} {Q : Bool → Hp → Prop} (h : te σ H fun x H1 => ∃ c, x = .bl c ∧ Q c H1) : tTest te σ H Q := h
theorem not_raw {t : TT} {σ : L2.St} {H : Hp} {Q : Bool → Hp → Prop} (h : t σ H fun c H1 => Q (!c) H1) : tNot t σ H Q := h
theorem nx_tn {D : Ends} {σ : L2.St} {H : Hp} (h : D.nx σ H) : tNext D σ H := h
theorem q_ifQ {t : TT} {tu tz : TS} {D : Ends} {σ : L2.St} {H : Hp} (h : t σ H fun c H1 => if c = true then tu { D with nx := tz D } σ H1 else tz D σ H1) : tSeq (tIfS t tu tNext) tz D σ H := h
theorem iteT' {c : Bool} {A B : Prop} (h : c = true) (a : A) : if c = true then A else B := by rw [if_pos h]; exact a
theorem iteF' {c : Bool} {A B : Prop} (h : c = false) (b : B) : if c = true then A else B := by rw [if_neg (by rw [h]; exact Bool.false_ne_true)]; exact b
def spKnown (K : PySem.W.Frag) : Sp := fun vs H Q _ => ∃ (v : V) (t : PyData) (d : Addr) (kvs : List (Key × V)), vs = [v, .ref d] ∧ Dx K H v t ∧ H d = some (.dK kvs) ∧ ∀ H', Ex H H' → Q (.bl (match t with | .str x => (valV kvs (.inr x)).isSome | _ => false)) H'
def spKnownT (K : PySem.W.Frag) : Sp := fun vs H Q _ => ∃ (v : V) (t : PyData) (d : Addr) (n : Str), vs = [v, .ref d] ∧ Dx K H v t ∧ SqT K H d [.str n] ∧ ∀ H', Ex H H' → Q (.bl (match t with | .str x => decide (x = n) | _ => false)) H'
def spTof (K : PySem.W.Frag) : Sp := fun vs H Q _ => ∃ (v : V) (n z : Str) (b : Int) (ms : List Tr), vs = [v, .str z] ∧ TrV H v (.grp n b ms) ∧ (Tr.grp n b ms).ok ∧ (Tr.grp n b ms).deep ≤ 4 ∧ (Tr.grp n b ms).size ≤ 500 ∧ (Tr.grp n b ms).nms.Nodup ∧ (z = n ∨ ∃ i, (z, i) ∈ trnTs ms) ∧ ∀ u H', Ex H H' → (z = n → u = .non) → (∀ i, (z, i) ∈ trnTs ms → u = .int i) → Q u H'
def spTofR (K : PySem.W.Frag) (CN : Addr) : Sp := fun vs H Q E => ∃ (v x : V) (n : Str) (b : Int) (ms : List Tr) (d : PyData), vs = [v, x] ∧ TrV H v (.grp n b ms) ∧ (Tr.grp n b ms).ok ∧ (Tr.grp n b ms).deep ≤ 4 ∧ (Tr.grp n b ms).size ≤ 500 ∧ (Tr.grp n b ms).nms.Nodup ∧ Dx K H x d ∧ (∀ z, d = .str z → z ∉ (Tr.grp n b ms).nms) ∧ ∀ dd H', Ex H H' → H dd = none → H' dd = some (.xd [("name", x)]) → E (.ref CN) (some dd) H'
section
variable {P : Program} {w : World} {K : PySem.W.Frag} {mg : Str → Option Value} {base : Heap}
theorem ok_is_known (T : Tp w K mg) : FnOk P w K mg base CX0 1 T.f_is_known T.d_is_known ["thing", "names"] (spKnown K) := by
  refine T.F_is_known.ok sc_is_known (fun vs H Q E h => ?_) (fun cdv A outer s H vs Q E hr h => ?_)
  · obtain ⟨v, t, d, kvs, rfl, _⟩ := h
    rfl
  obtain ⟨v, t, d, kvs, rfl, hv, hd, q⟩ := h
  refine ⟨_, (pss_one (ps_ret (pe_and (pe_callB (isiK (K := K) rfl) rfl T.z_isinstance (by decide +kernel) (pa_cons (pv 0) (pa_cons (pe_bltn (v := .ty "str") rfl T.z_str (by decide +kernel) rfl) pa_nil (star1 rfl)) (star1 rfl)) (by decide) (by decide) (star1 rfl) (starAll rfl)) (pe_one (pe_cmp (pc_din (hu_of hr) (pv 0) (pv 1))))))), ?_⟩
  refine s_ret (ev_is (ev_andV (a := isStrB t) (b := match t with | .str x => (valV kvs (.inr x)).isSome | _ => false) (ev_isX (ev_var rfl) hv (kt_str t)) fun hb => ?_) ?_) q
  · obtain ⟨z, rfl⟩ : ∃ z, t = .str z := by
      cases t <;> first | exact ⟨_, rfl⟩ | cases hb
    cases hv
    intro H1 e1 Q' q'
    exact ⟨_, rfl, _, rfl, d, _, rfl, DGet.k (k := .inr z) (e1 _ _ hd), q' H1 (Ex.refl H1)⟩
  · cases t <;> simp [isStrB]
theorem okT_is_known (T : Tp w K mg) : FnOk P w K mg base CX0 1 T.f_is_known T.d_is_known ["thing", "names"] (spKnownT K) := by
  refine T.F_is_known.ok sc_is_known (fun vs H Q E h => ?_) (fun cdv A outer s H vs Q E hr h => ?_)
  · obtain ⟨v, t, d, n, rfl, _⟩ := h
    rfl
  obtain ⟨v, t, d, n, rfl, hv, hd, q⟩ := h
  refine ⟨_, (pss_one (ps_ret (pe_and (pe_callB (isiK (K := K) rfl) rfl T.z_isinstance (by decide +kernel) (pa_cons (pv 0) (pa_cons (pe_bltn (v := .ty "str") rfl T.z_str (by decide +kernel) rfl) pa_nil (star1 rfl)) (star1 rfl)) (by decide) (by decide) (star1 rfl) (starAll rfl)) (pe_one (pe_cmpR (inSK (K := K) rfl) (pv 0) (pv 1) (by with_unfolding_all rfl)))))), ?_⟩
  refine s_ret (ev_is (ev_andV (a := isStrB t) (b := match t with | .str x => decide (x = n) | _ => false) (ev_isX (ev_var rfl) hv (kt_str t)) fun hb => ?_) ?_) q
  · obtain ⟨z, rfl⟩ : ∃ z, t = .str z := by
      cases t <;> first | exact ⟨_, rfl⟩ | cases hb
    cases hv
    intro H1 e1 Q' q'
    refine ⟨_, rfl, _, rfl, d, [.str n], rfl, Or.inr (ex_t e1 hd), rfl, rfl, ?_⟩
    have e : inV (.str z) [.str n] = decide (z = n) := by
      have := in_strs (x := z) (xs := [n])
      rw [show inV (.str z) [.str n] = inV (.str z) ([n].map V.str) from rfl, this]
      simp
    rw [e]
    exact q' H1 (Ex.refl H1)
  · cases t <;> simp [isStrB]
theorem ok_turn_of (T : Tp w K mg) : FnOk P w K mg base CX0 25 T.f_turn_of T.d_turn_of ["plan", "name"] (spTof K) := by
  refine T.F_turn_of.ok sc_turn_of (fun vs H Q E h => ?_) (fun cdv A outer s H vs Q E hr h => ?_)
  · obtain ⟨v, n, z, b, ms, rfl, _⟩ := h
    rfl
  obtain ⟨v, n, z, b, ms, rfl, tv, tok, tdp, tsz, nd, hz, q⟩ := h
  refine ⟨_, (pss_cons (ps_if (pt_val (pe_call (okT_is_known T) (hr.mono (by decide)) rfl T.m_is_known T.F_is_known.kp (b_is_known T) .nil pass0 (pa_cons (pv 1) (pa_cons (pe_tup (pa_cons (pe_ix (ixTK (K := K) rfl) (pv 0) pe_int (fun _ _ => rfl)) pa_nil (star1 rfl))) pa_nil (star1 rfl)) (star1 rfl)) (by decide) (star1 rfl) (starAll rfl))) (pss_one (ps_ret pe_non)) pss_nil)
  (pss_cons (ps_set (i := 2) sc_turn_of.nd rfl (Or.inl rfl) (pe_call (ok_turns_in T) (hr.mono (by decide)) rfl T.m_turns_in T.F_turns_in.kp (b_turns_in T) .nil pass0 (pa_cons (pv 0) pa_nil (star1 rfl)) (by decide) (star1 rfl) (starAll rfl)))
  (pss_cons (ps_if (pt_not (pt_val (pe_call (ok_is_known T) (hr.mono (by decide)) rfl T.m_is_known T.F_is_known.kp (b_is_known T) .nil pass0 (pa_cons (pv 1) (pa_cons (pv 2) pa_nil (star1 rfl)) (star1 rfl)) (by decide) (star1 rfl) (starAll rfl)))) (pss_one ps_never) pss_nil)
  (pss_one (ps_ret (pe_dget (hu_of hr) (pv 2) (pv 1) (nosl fun _ _ => rfl))))))), ?_⟩
  have tv0 := tv
  have nd2 : (nmss ms).Nodup := by
    simp only [Tr.nms, List.nodup_cons] at nd
    exact nd.2
  have kn : ((trnTs ms).map (·.1)).Nodup := by rw [trns_keys]; exact nd2
  cases tv with
  | @grp a m _ _ xs _ h1 h2 h3 =>
  refine q_ifQ (tB_raw (call_raw (cons_raw ⟨_, rfl, cons_raw (tup_raw (cons_raw ?_))⟩)))
  refine (ev_ixT (v := .str n) (ev_var rfl) ev_c (st_of h1) rfl) H (Ex.refl H) _ fun H1 e1 => tn_raw ⟨by show 1 ≤ sizeLine; decide, fun p hp => tn_raw ?_⟩
  have e2 := Ex.new (o := .tup [.str n]) hp
  refine ⟨.str z, .str z, p, n, rfl, Dx.str z, st_of upd_same, fun H3 e3 => ⟨_, rfl, ?_⟩⟩
  have e03 := (e1.trans e2).trans e3
  by_cases zn : z = n
  · refine iteT' (decide_eq_true zn) ?_
    refine s_ret ev_c fun H4 e4 => q .non H4 (e03.trans e4) (fun _ => rfl) fun i hi => ?_
    have : n ∈ nmss ms := by
      rw [← trns_keys, ← zn]
      exact List.mem_map.mpr ⟨_, hi, rfl⟩
    simp only [Tr.nms, List.nodup_cons] at nd
    exact absurd this nd.1
  obtain ⟨i, hi⟩ : ∃ i, (z, i) ∈ trnTs ms := by
    rcases hz with h | h
    · exact absurd h zn
    · exact h
  refine iteF' (decide_eq_false zn) ?_
  refine q_asgP (call_raw (cons_raw ⟨_, rfl, tn_raw ?_⟩))
  refine ⟨.ref a, n, b, ms, rfl, trv_tk (TK.ex e03) _ _ tv0, tok, by omega, by decide, by omega, nd2, fun D H4 e4 hD d4 => ?_⟩
  obtain ⟨kvs, hk, pk, pl⟩ := d4
  have gi : getN (trnTs ms) z = some i := getN_mem kn hi
  rcases kr_val z pk with ⟨_, h⟩ | ⟨y, i', h5, h6, h7⟩
  · rw [gi] at h
    cases h
  rw [gi] at h6
  cases h6
  refine q_ifQ (not_raw (tB_raw (call_raw (cons_raw ⟨_, rfl, cons_raw ⟨_, rfl, tn_raw ?_⟩⟩))))
  refine ⟨.str z, .str z, D, kvs, rfl, Dx.str z, hk, fun H5 e5 => ⟨_, rfl, ?_⟩⟩
  refine iteF' (by show (!(valV kvs (.inr z)).isSome) = false; rw [h5]; rfl) ?_
  refine s_retP ?_
  refine ⟨_, rfl, _, rfl, D, y, rfl, by rw [← h5]; exact DGet.k (k := .inr z) (e5 _ _ hk), ?_⟩
  refine q y H5 ((e03.trans e4).trans e5) (fun h => absurd h zn) fun j hj => ?_
  have gj : getN (trnTs ms) z = some j := getN_mem kn hj
  rw [gi] at gj
  cases gj
  exact h7
theorem okR_turn_of (T : Tp w K mg) : FnOk P w K mg base (L2.CX P w) 25 T.f_turn_of T.d_turn_of ["plan", "name"] (spTofR K T.C_NoName) := by
  refine T.F_turn_of.okX sc_turn_of (fun vs H Q E h => ?_) (fun cdv A outer s H vs Q E hr h => ?_)
  · obtain ⟨v, x, n, b, ms, d, rfl, _⟩ := h
    rfl
  obtain ⟨v, x, n, b, ms, d, rfl, tv, tok, tdp, tsz, nd, hx, hno, q⟩ := h
  refine ⟨_, (pss_cons (ps_if (pt_val (pe_call (okT_is_known T) (hr.mono (by decide)) rfl T.m_is_known T.F_is_known.kp (b_is_known T) .nil pass0 (pa_cons (pv 1) (pa_cons (pe_tup (pa_cons (pe_ix (ixTK (K := K) rfl) (pv 0) pe_int (fun _ _ => rfl)) pa_nil (star1 rfl))) pa_nil (star1 rfl)) (star1 rfl)) (by decide) (star1 rfl) (starAll rfl))) (pss_one (ps_ret pe_non)) pss_nil)
  (pss_cons (ps_set (i := 2) sc_turn_of.nd rfl (Or.inl rfl) (pe_call (ok_turns_in T) (hr.mono (by decide)) rfl T.m_turns_in T.F_turns_in.kp (b_turns_in T) .nil pass0 (pa_cons (pv 0) pa_nil (star1 rfl)) (by decide) (star1 rfl) (starAll rfl)))
  (pss_cons (ps_if (pt_not (pt_val (pe_call (ok_is_known T) (hr.mono (by decide)) rfl T.m_is_known T.F_is_known.kp (b_is_known T) .nil pass0 (pa_cons (pv 1) (pa_cons (pv 2) pa_nil (star1 rfl)) (star1 rfl)) (by decide) (star1 rfl) (starAll rfl)))) (pss_one (ps_raise rfl (takes_of rfl rfl rfl rfl) (pmk_oex T.ox_NoName T.ii_NoName T.ti_NoName (ok_NoName___init__ T) (hr.mono (by decide)) (b_NoName___init__ T) .nil pass0 rfl T.mc_NoName (pa_cons (pv 1) pa_nil (star1 rfl)) (by decide) (star1 rfl) (starAll rfl)))) pss_nil)
  (pss_one (ps_ret (pe_dget (hu_of hr) (pv 2) (pv 1) (nosl fun _ _ => rfl))))))), ?_⟩
  have tv0 := tv
  have nd2 : (nmss ms).Nodup := by
    simp only [Tr.nms, List.nodup_cons] at nd
    exact nd.2
  cases tv with
  | @grp a m _ _ xs _ h1 h2 h3 =>
  refine q_ifQ (tB_raw (call_raw (cons_raw ⟨_, rfl, cons_raw (tup_raw (cons_raw ?_))⟩)))
  refine (ev_ixT (v := .str n) (ev_var rfl) ev_c (st_of h1) rfl) H (Ex.refl H) _ fun H1 e1 => tn_raw ⟨by show 1 ≤ sizeLine; decide, fun p hp => tn_raw ?_⟩
  have e2 := Ex.new (o := .tup [.str n]) hp
  refine ⟨x, d, p, n, rfl, dx_mono (e1.trans e2) hx, st_of upd_same, fun H3 e3 => ⟨_, rfl, ?_⟩⟩
  have e03 := (e1.trans e2).trans e3
  refine iteF' ?_ ?_
  · cases d <;> first | rfl | skip
    rename_i z
    refine decide_eq_false fun e => hno z rfl ?_
    rw [e]
    simp only [Tr.nms]
    exact List.mem_cons_self
  refine q_asgP (call_raw (cons_raw ⟨_, rfl, tn_raw ?_⟩))
  refine ⟨.ref a, n, b, ms, rfl, trv_tk (TK.ex e03) _ _ tv0, tok, by omega, by decide, by omega, nd2, fun D H4 e4 hD d4 => ?_⟩
  obtain ⟨kvs, hk, pk, pl⟩ := d4
  refine q_ifQ (not_raw (tB_raw (call_raw (cons_raw ⟨_, rfl, cons_raw ⟨_, rfl, tn_raw ?_⟩⟩))))
  refine ⟨x, d, D, kvs, rfl, dx_mono (e03.trans e4) hx, hk, fun H5 e5 => ⟨_, rfl, ?_⟩⟩
  have e05 := (e03.trans e4).trans e5
  refine iteT' ?_ ?_
  · cases d <;> first | rfl | skip
    rename_i z
    show (!(valV kvs (.inr z)).isSome) = true
    rcases kr_val z pk with ⟨h, _⟩ | ⟨y, i', h5, h6, h7⟩
    · rw [h]
      rfl
    · refine absurd ?_ (hno z rfl)
      simp only [Tr.nms]
      refine List.mem_cons_of_mem _ ?_
      rw [← trns_keys]
      exact List.mem_map.mpr ⟨_, mem_getN h6, rfl⟩
  refine ⟨x, rfl, mkx T.ox_NoName T.na_NoName_name fun dd nd => q dd _ (e05.trans (Ex.new nd)) (fresh_back e05 nd) upd_same⟩
theorem okX_turn_of (T : Tp w K mg) : FnOk P w K mg base (L2.CX P w) 25 T.f_turn_of T.d_turn_of ["plan", "name"] (Sp.or (spTof K) (spTofR K T.C_NoName)) := FnOk.or (FnOk.wk (ok_turn_of T)) (okR_turn_of T)
end
/-! ### the plan with other bounds -/
def spGreat (d : Nat) : Sp := fun vs H Q _ => ∃ (h : Addr) (C : Nat) (v : V) (n : Str) (b : Int) (ms : List Tr), vs = [.ref h, v] ∧ Bx H h C ∧ C + 2 * (Tr.grp n b ms).size ≤ 90000 ∧ TrV H v (.grp n b ms) ∧ (Tr.grp n b ms).ok ∧ (Tr.grp n b ms).deep ≤ d ∧ (Tr.grp n b ms).size ≤ 500 ∧
  ∀ v' b' ms' H', Bx H' h (C + 2 * (Tr.grp n b ms).size) → Kp h h H H' → TrV H' v' (.grp n b' ms') → (Tr.grp n b' ms').ok → (Tr.grp n b' ms').deep = (Tr.grp n b ms).deep → (Tr.grp n b' ms').size = (Tr.grp n b ms).size → (Tr.grp n b' ms').nms = (Tr.grp n b ms).nms → Q v' H'
theorem sizes_one (ts : List Tr) (t : Tr) : sizes (ts ++ [t]) = sizes ts + t.size := by
  rw [sizes_app]
  simp [sizes]
theorem deeps_one' (ts : List Tr) (t : Tr) : deeps (ts ++ [t]) = max (deeps ts) t.deep := by
  rw [deeps_app]
  simp [deeps]
theorem nmss_one (ts : List Tr) (t : Tr) : nmss (ts ++ [t]) = nmss ts ++ t.nms := by
  rw [nmss_app]
  simp [nmss]
theorem take_at53 {ts : List Tr} {i : Nat} {t : Tr} (h : ts[i]? = some t) : ts.take (i + 1) = ts.take i ++ [t] := by
  rw [List.take_succ_eq_append_getElem (List.getElem?_eq_some_iff.mp h).1, (List.getElem?_eq_some_iff.mp h).2]
section
variable {P : Program} {w : World} {K : PySem.W.Frag} {mg : Str → Option Value} {base : Heap}
theorem gt_step (T : Tp w K mg) {d : Nat} {spR : Sp} (ih : FnOk P w K mg base CX0 (d + 3) T.f__law_great T.d__law_great ["_law_hand_here", "_law_plan_here"] spR) (hR : ∀ k, d = k + 1 → spR = spGreat k) : FnOk P w K mg base CX0 (d + 4) T.f__law_great T.d__law_great ["_law_hand_here", "_law_plan_here"] (spGreat d) := by
  refine T.F__law_great.ok sc__law_great (fun vs H Q E h => ?_) (fun cdv A outer s H vs Q E hr h => ?_)
  · obtain ⟨h, C, v, n, b, ms, rfl, _⟩ := h
    rfl
  obtain ⟨h, C, v, n, b, ms, rfl, A0, hC, tv, tok, hdp, hsz, q⟩ := h
  refine ⟨_, (pss_cons (ps_set (i := 2) sc__law_great.nd rfl (Or.inl rfl) (pe_call (ok__law_pick T) (hr.mono (by omega)) rfl T.m__law_pick T.F__law_pick.kp (b__law_pick T) .nil pass0 (pa_cons (pv 0) (pa_cons (pe_lst (pa_cons (pe_ix (ixTK (K := K) rfl) (pv 1) pe_int (fun _ _ => rfl)) (pa_cons (pe_ix (ixTK (K := K) rfl) (pv 1) pe_int (fun _ _ => rfl)) (pa_cons (pe_ix (ixTK (K := K) rfl) (pv 1) pe_int (fun _ _ => rfl)) (pa_cons (pe_op op_add pe_int (pe_call (ok__law_take T) (hr.mono (by omega)) rfl T.m__law_take T.F__law_take.kp (b__law_take T) .nil pass0 (pa_cons (pv 0) (pa_cons pe_int pa_nil (star1 rfl)) (star1 rfl)) (by decide) (star1 rfl) (starAll rfl))) pa_nil (star1 rfl)) (star1 rfl)) (star1 rfl)) (star1 rfl))) pa_nil (star1 rfl)) (star1 rfl)) (by decide) (star1 rfl) (starAll rfl)))
  (pss_cons (ps_setLc (i := 3) (own := [("_law_member", 4)]) (g := gName 4) (tt := tYes) rfl sc__law_great.nd rfl rfl (sw_true rfl rfl rfl (by decide +kernel)) (piTK (K := K) rfl (pe_ix (ixTK (K := K) rfl) (pv 1) pe_int (fun _ _ => rfl))) (blkOk_by (N := N__law_great) (sc := defScope s__law_great) (by decide +kernel)) (fun _ _ _ _ _ => (pg_name (i := 4) sc__law_great.nd rfl (Or.inl rfl))) (fun _ _ _ _ _ => pts_nil) (fun _ _ _ _ _ => (pe_ifExp (pt_val (pe_callB (isiK (K := K) rfl) rfl T.z_isinstance (by decide +kernel) (pa_cons (pv 4) (pa_cons (pe_bltn (v := .ty "str") rfl T.z_str (by decide +kernel) rfl) pa_nil (star1 rfl)) (star1 rfl)) (by decide) (by decide) (star1 rfl) (starAll rfl))) (pv 4) (pe_call ih hr rfl T.m__law_great T.F__law_great.kp (b__law_great T) .nil pass0 (pa_cons (pv 0) (pa_cons (pv 4) pa_nil (star1 rfl)) (star1 rfl)) (by decide) (star1 rfl) (starAll rfl)))))
  (pss_one (ps_ret (pe_tup (pa_cons (pe_ix (ixTK (K := K) rfl) (pv 1) pe_int (fun _ _ => rfl)) (pa_cons (pv 2) (pa_cons (pe_callTy (tupleK (K := K) rfl) rfl T.z_tuple (by decide +kernel) (pa_cons (pv 3) pa_nil (star1 rfl)) (by decide) (by decide) (star1 rfl) (starAll rfl)) pa_nil (star1 rfl)) (star1 rfl)) (star1 rfl))))))), ?_⟩
  cases tv with
  | @grp a m _ _ xs _ h1 h2 h3 =>
    obtain ⟨k, rfl⟩ : ∃ k, d = k + 1 := ⟨d - 1, by simp only [Tr.deep] at hdp; omega⟩
    have eR := hR k rfl
    subst eR
    simp only [Tr.ok] at tok
    have hsz2 : sizes ms ≤ 500 := by simp only [Tr.size] at hsz; omega
    have hszE : (Tr.grp n b ms).size = 1 + sizes ms := by simp only [Tr.size]; omega
    have hdp2 : deeps ms ≤ k := by simp only [Tr.deep] at hdp; omega
    have noh : ∀ {c : Addr} {ys : List V}, H c = some (.tup ys) → c ≠ h := fun hc z => by
      obtain ⟨_, _, _, B⟩ := A0
      rw [z, B.hh] at hc
      cases hc
    -- the bound
    refine q_asgP (call_raw (cons_raw ⟨_, rfl, cons_raw (lst_raw (cons_raw ?_))⟩))
    refine (ev_ixT (v := .int b) (ev_var rfl) ev_c (st_of h1) rfl) H (Ex.refl H) _ fun H1 e1 => cons_raw ?_
    refine (ev_ixT (v := .int b) (ev_var rfl) ev_c (st_of (e1 _ _ h1)) rfl) H1 (Ex.refl H1) _ fun H2 e2 => cons_raw ?_
    refine (ev_ixT (v := .int b) (ev_var rfl) ev_c (st_of ((e1.trans e2) _ _ h1)) rfl) H2 (Ex.refl H2) _ fun H3 e3 => cons_raw (op_raw (tc_raw ?_))
    have e03 := e1.trans (e2.trans e3)
    refine take_at rfl (A0.ex e03) (by omega) (by decide) (by decide) fun r H4 r0 r1 A4 k4 => ⟨1, r, rfl, rfl, tn_raw ⟨by show 4 ≤ sizeLine; decide, fun p hp => tn_raw ?_⟩⟩
    refine ⟨h, p, _, _, rfl, A4.new hp, by omega, upd_same, A4.fresh hp, (by show 1 ≤ 4; decide), (by show 4 ≤ 1000; decide), fun bv H5 hm A5 k5 => ?_⟩
    obtain ⟨b', rfl, b1, b2⟩ : ∃ b' : Int, bv = .int b' ∧ 1 ≤ b' ∧ b' ≤ 999999999 := by
      simp only [List.mem_cons, List.not_mem_nil, or_false] at hm
      rcases hm with z | z | z | z
      · exact ⟨b, z, tok.1, tok.2.1⟩
      · exact ⟨b, z, tok.1, tok.2.1⟩
      · exact ⟨b, z, tok.1, tok.2.1⟩
      · exact ⟨1 + r, z, by omega, by omega⟩
    have k05 : Kp h h H H5 := (((Kp.ex e03).trans k4).trans (Kp.ex (Ex.new hp))).trans k5
    have m5 := k05 _ _ (noh h2) (noh h2) h2
    have a5 := k05 _ _ (noh h1) (noh h1) h1
    have tk05 : TK H H5 := tk_bx A0 k05
    have mh := noh h2
    have ah := noh h1
    -- what is in it
    refine q_asgP ?_
    refine ⟨_, rfl, _, _, _, .ref m, rfl, rfl, st_of a5, rfl, m, rfl, ⟨xs, st_of m5⟩, fun D hD => ?_⟩
    have dh := A5.fresh hD
    refine lc_tup (K := K) (a := m) (xs := xs) (fun i H' => ∃ ys ts, Bx H' h (C + 1 + 1 + 2 * sizes (ms.take i)) ∧ Kp h h H5 H' ∧ H' D = some (.lst ys) ∧ TrVs H' ys ts ∧ oks ts ∧ nmss ts = nmss (ms.take i) ∧ deeps ts = deeps (ms.take i) ∧ sizes ts = sizes (ms.take i) ∧ ts.length = i) ⟨[], [], A5.new hD, Kp.ex (Ex.new hD), upd_same, .nil, trivial, rfl, rfl, rfl, rfl⟩ (fun i H' _ hP => ?_) ?_ ?_
    · obtain ⟨_, _, _, k6, _⟩ := hP
      exact st_of (k6 _ _ mh mh m5)
    · rintro i x H6 hx ⟨ys, ts, A6, k6, hD6, tvs, ok6, nm6, dp6, sz6, l6⟩
      obtain ⟨t, ht, tx⟩ := trvs_get h3 hx
      have s1 := sizes_mem ht
      have s2 := deeps_mem ht
      have s3 : sizes (ms.take (i + 1)) = sizes (ms.take i) + t.size := by rw [take_at53 ht, sizes_one]
      have s4 := sizes_take ms (i + 1)
      have tv6 := trv_tk (tk05.trans (tk_bx A5 k6)) _ _ tx
      have yl := trvs_len tvs
      have ls := len_sizes ts
      refine ⟨rfl, tYesQ ?_⟩
      refine (et_B (ev_isHand (ev_var rfl) tv6)) H6 (Ex.refl H6) _ fun H7 e7 => ?_
      have fin : ∀ {H8 : Hp} {u : V} {t' : Tr}, Bx H8 h (C + 1 + 1 + 2 * sizes (ms.take (i + 1))) → Kp h h H6 H8 → TrV H8 u t' → t'.ok → t'.nms = t.nms → t'.deep = t.deep → t'.size = t.size → ∃ acc, H8 D = some (.lst acc) ∧ acc.length < sizeLine ∧ (∃ ys ts, Bx (upd H8 D (.lst (acc ++ [u]))) h (C + 1 + 1 + 2 * sizes (ms.take (i + 1))) ∧ Kp h h H5 (upd H8 D (.lst (acc ++ [u]))) ∧ upd H8 D (.lst (acc ++ [u])) D = some (.lst ys) ∧ TrVs (upd H8 D (.lst (acc ++ [u]))) ys ts ∧ oks ts ∧ nmss ts = nmss (ms.take (i + 1)) ∧ deeps ts = deeps (ms.take (i + 1)) ∧ sizes ts = sizes (ms.take (i + 1)) ∧ ts.length = i + 1) := by
        intro H8 u t' A8 k8 tu ok' nm' dp' sz'
        have hD8 := k8 _ _ dh dh hD6
        have tkP : TK H8 (upd H8 D (.lst (ys ++ [u]))) := TK.lst hD8
        refine ⟨ys, hD8, sz_lt (by omega), ys ++ [u], ts ++ [t'], ?_, ?_, upd_same, trvs_tk tkP _ _ (trvs_app (trvs_tk (tk_bx A6 k8) _ _ tvs) (.cons tu .nil)), oks_app ok6 ⟨ok', trivial⟩, ?_, ?_, ?_, by rw [List.length_append, l6]; rfl⟩
        · obtain ⟨x1, x2, x3, B⟩ := A8
          exact ⟨x1, x2, x3, by rw [upd_ne (Ne.symm dh)]; exact B.hh, B.n0, B.m0, B.m1, B.c0, B.c1⟩
        · intro c o u1 u2 hc
          have : c ≠ D := fun z => by
            rw [z, hD] at hc
            cases hc
          rw [upd_ne this]
          exact k8 c o u1 u2 (k6 c o u1 u2 hc)
        · rw [nmss_one, take_at53 ht, nmss_one, nm6, nm']
        · rw [deeps_one', take_at53 ht, deeps_one', dp6, dp']
        · rw [sizes_one, take_at53 ht, sizes_one, sz6, sz']
      refine ite2 (fun hb => ?_) (fun hb => ?_)
      · cases tv6 with
        | hand nm => exact ⟨_, rfl, fin ((A6.ex e7).up (by omega)) (Kp.ex e7) (.hand nm) trivial rfl rfl rfl⟩
        | grp _ _ _ => cases hb
      · cases tv6 with
        | hand nm => exact absurd rfl hb
        | @grp a' m' n' c' xs' ms' g1 g2 g3 =>
          have tvg := trv_tk (TK.ex e7) _ _ (TrV.grp g1 g2 g3)
          have tok' := oks_get tok.2.2.2 ht
          refine call_raw (cons_raw ⟨_, rfl, cons_raw ⟨_, rfl, tn_raw ?_⟩⟩)
          refine ⟨h, C + 1 + 1 + 2 * sizes (ms.take i), .ref a', n', c', ms', rfl, A6.ex e7, by omega, tvg, tok', by omega, by omega, fun v' c2 ms2 H8 A8 k8 tv8 ok8 dp8 sz8 nm8 => ?_⟩
          exact fin (A8.up (by omega)) ((Kp.ex e7).trans k8) tv8 ok8 nm8 dp8 sz8
    rintro H6 ⟨ys, ts, A6, k6, hD6, tvs, ok6, nm6, dp6, sz6, l6⟩
    rw [trvs_len h3, List.take_length] at A6 nm6 dp6 sz6
    rw [trvs_len h3] at l6
    have a6 := k6 _ _ ah ah a5
    refine s_retP (tup_raw (cons_raw ?_))
    refine (ev_ixT (v := .str n) (ev_var rfl) ev_c (st_of a6) rfl) H6 (Ex.refl H6) _ fun H7 e7 => cons_raw ⟨_, rfl, cons_raw (cb_raw (cons_raw ⟨_, rfl, tn_raw ⟨D, ys, rfl, Or.inl ⟨sq_of (e7 _ _ hD6), fun t ht => tn_raw ⟨by show 3 ≤ sizeLine; decide, fun g hg => ?_⟩⟩⟩⟩))⟩
    have e8 := (Ex.new (o := .tup ys) ht).trans (Ex.new (o := .tup [.str n, .int b', .ref t]) hg)
    have ne : ts ≠ [] := fun z => by
      rw [z] at l6
      have : ms = [] := List.eq_nil_of_length_eq_zero l6.symm
      exact tok.2.2.1 this
    refine q (.ref g) b' ts _ ((A6.ex (e7.trans e8)).up (by omega)) ((k05.trans k6).trans (Kp.ex (e7.trans e8))) (.grp upd_same ((Ex.new hg) _ _ upd_same) (trvs_tk (TK.ex (e7.trans e8)) _ _ tvs)) ⟨b1, b2, ne, ok6⟩ (by simp only [Tr.deep, dp6]) (by simp only [Tr.size, sz6]) (by simp only [Tr.nms, nm6])
theorem gt_all (T : Tp w K mg) : ∀ d, FnOk P w K mg base CX0 (d + 4) T.f__law_great T.d__law_great ["_law_hand_here", "_law_plan_here"] (spGreat d)
  | 0 => gt_step T (spR := fun _ _ _ _ => False) ⟨fun _ _ _ _ h => h.elim, fun _ _ _ _ _ _ _ _ _ _ _ _ _ h => h.elim⟩ (fun k h => by cases h)
  | d + 1 => gt_step T (gt_all T d) (fun k h => by cases h; rfl)
theorem ok__law_great (T : Tp w K mg) : FnOk P w K mg base CX0 8 T.f__law_great T.d__law_great ["_law_hand_here", "_law_plan_here"] (spGreat 4) := gt_all T 4
end
/-! ### one thing refused -/
theorem q_seqM {t tz : TS} {D : Ends} {σ : L2.St} {H : Hp} (M : L2.St → Hp → Prop) (tail : ∀ σ' H', M σ' H' → tz D σ' H') (go : ∀ R : L2.St → Hp → Prop, (∀ σ' H', M σ' H' → R σ' H') → t { D with nx := R } σ H) : tSeq t tz D σ H := go (tz D) tail
theorem cls53 : ∀ cs : List Addr, Paired ClsV (cs.map V.ref) (cs.map Value.ref)
  | [] => .nil
  | c :: cs => .cons (.own c) (cls53 cs)
theorem kits53 {K : PySem.W.Frag} {D : Addr} : ∀ {cs : List Addr}, (∀ C ∈ cs, PySem.W.kitOne K (.ref D) (.ref C) = some false) → PySem.W.kitAny K (.ref D) (cs.map Value.ref) = some false
  | [], _ => rfl
  | c :: cs, h => by
    have h1 := h c List.mem_cons_self
    have h2 := kits53 (cs := cs) fun C hC => h C (List.mem_cons_of_mem _ hC)
    simp [PySem.W.kitAny, h1] at h2 ⊢
    exact h2
theorem ev_isxT {K : PySem.W.Frag} {H : Hp} {σ : L2.St} {i : Nat} {ta : TA} {a D : Addr} {d : Option Addr} {cs : List Addr} (hσ : σ[i]? = some (some (.ref a))) (x : XcAt H a D d) (xc : XcC K D) (ht : EvA ta σ H (cs.map V.ref)) (hl : cs.length ≤ 100) (k : ∀ C ∈ cs, PySem.W.kitOne K (.ref D) (.ref C) = some false) : Ev (tCB (rIsXT K) (tCons (tVar i) (tCons (tTup ta) tNil))) σ H (.bl false) := fun H1 e1 Q q =>
  ⟨_, hσ, ht H1 e1 _ fun H2 e2 => ⟨sz_of (by rw [List.length_map]; omega), fun tp htp => ⟨a, D, tp, d, _, _, false, rfl, x.ex (e1.trans (e2.trans (Ex.new htp))), xc, upd_same, cls53 _, kits53 k, q _ (e2.trans (Ex.new htp))⟩⟩⟩
theorem ev_isx {K : PySem.W.Frag} {H : Hp} {σ : L2.St} {i : Nat} {a D : Addr} {d : Option Addr} {c : V} {u : Value} {b : Bool} (hσ : σ[i]? = some (some (.ref a))) (x : XcAt H a D d) (xc : XcC K D) (hc : ClsV c u) (k : PySem.W.kitOne K (.ref D) u = some b) : Ev (tCB (rIsX K) (tCons (tVar i) (tCons (tC c) tNil))) σ H (.bl b) := fun H1 e1 Q q =>
  ⟨_, hσ, a, D, d, c, u, b, rfl, x.ex e1, xc, hc, k, q H1 (Ex.refl H1)⟩
def spRef (K : PySem.W.Frag) : Sp := fun vs H Q _ => ∃ (v x : V) (n : Str) (b : Int) (ms : List Tr) (d : PyData), vs = [v, x] ∧ TrV H v (.grp n b ms) ∧ (Tr.grp n b ms).ok ∧ (Tr.grp n b ms).deep ≤ 4 ∧ (Tr.grp n b ms).size ≤ 500 ∧ (Tr.grp n b ms).nms.Nodup ∧ Dy K H x d ∧ showsY d ∧ (∀ z, d = .str z → z ∉ (Tr.grp n b ms).nms) ∧ Sy K H ∧ ∀ H', Ex H H' → Q (.bl true) H'
section
variable {P : Program} {w : World} {K : PySem.W.Frag} {mg : Str → Option Value} {base : Heap}
theorem kit53 (T : Tp w K mg) : (∀ C ∈ [T.C_Endless, T.C_NoBook, T.C_NoBounds, T.C_NoHouse, T.C_NoLine, T.C_NoPlan, T.C_NoScript, T.C_NoStep, T.C_NotWaiting, T.C_NoText, T.C_TooMany, T.C_Uneven], PySem.W.kitOne K (.ref T.C_NoName) (.ref C) = some false) ∧ PySem.W.kitOne K (.ref T.C_NoName) (.ref T.C_NoName) = some true ∧ PySem.W.kitOne K (.ref T.C_NoName) (.type "ValueError") = some true := by
  have self := T.sb_NoName_NoName
  have no : ∀ {C : Addr}, PySem.W.subIn K (.ref T.C_NoName) (.ref C) = some false → T.C_NoName = C → false = true := fun {C} h e => by
    subst e
    rw [self] at h
    cases h
  refine ⟨fun C hC => ?_, T.xc_NoName.kit self fun _ => rfl, kit_b (by decide +kernel) T.sb_NoName_ValueError⟩
  simp only [List.mem_cons, List.not_mem_nil, or_false] at hC
  rcases hC with rfl | rfl | rfl | rfl | rfl | rfl | rfl | rfl | rfl | rfl | rfl | rfl
  · exact T.xc_Endless.kit T.sb_NoName_Endless (no T.sb_NoName_Endless)
  · exact T.xc_NoBook.kit T.sb_NoName_NoBook (no T.sb_NoName_NoBook)
  · exact T.xc_NoBounds.kit T.sb_NoName_NoBounds (no T.sb_NoName_NoBounds)
  · exact T.xc_NoHouse.kit T.sb_NoName_NoHouse (no T.sb_NoName_NoHouse)
  · exact T.xc_NoLine.kit T.sb_NoName_NoLine (no T.sb_NoName_NoLine)
  · exact T.xc_NoPlan.kit T.sb_NoName_NoPlan (no T.sb_NoName_NoPlan)
  · exact T.xc_NoScript.kit T.sb_NoName_NoScript (no T.sb_NoName_NoScript)
  · exact T.xc_NoStep.kit T.sb_NoName_NoStep (no T.sb_NoName_NoStep)
  · exact T.xc_NotWaiting.kit T.sb_NoName_NotWaiting (no T.sb_NoName_NotWaiting)
  · exact T.xc_NoText.kit T.sb_NoName_NoText (no T.sb_NoName_NoText)
  · exact T.xc_TooMany.kit T.sb_NoName_TooMany (no T.sb_NoName_TooMany)
  · exact T.xc_Uneven.kit T.sb_NoName_Uneven (no T.sb_NoName_Uneven)
theorem ok__law_refused (T : Tp w K mg) : FnG P w K mg base 26 T.f__law_refused T.d__law_refused ["_law_plan_here", "_law_thing"] (spRef K) := by
  refine fun_g T.F__law_refused sc__law_refused (fun vs H Q E h => ?_) (fun cdv A outer s H vs Q E hG hr h => ?_)
  · obtain ⟨v, x, n, b, ms, d, rfl, _⟩ := h
    rfl
  obtain ⟨v, x, n, b, ms, d, rfl, tv, tok, tdp, tsz, nd, hd, sh, hno, y0, q⟩ := h
  refine ⟨_, (pss_cons (ps_set (i := 2) sc__law_refused.nd rfl (Or.inl rfl) pe_non)
  (pss_cons (ps_try_keep (i := 4) rfl rfl rfl sc__law_refused.nd rfl rfl ⟨rfl, by decide, .inl T.mc_LockError⟩ takes0 (fun W pn xe tk _ => (pss_one (ps_expr (pe_callS (okX_turn_of T) (hr.mono (by decide)) rfl T.m_turn_of T.F_turn_of.kp (b_turn_of T) (fun σ => passAt tk σ) (pa_cons (pv 0) (pa_cons (pv 1) pa_nil (star1 rfl)) (star1 rfl)) (by decide) (star1 rfl) (starAll rfl))))) (fun a oe cls d pn hz hf => (pss_one (ps_set (i := 2) sc__law_refused.nd rfl (Or.inl rfl) (pv 4)))))
  (pss_cons (ps_set (i := 3) sc__law_refused.nd rfl (Or.inl rfl) (pe_callB (isxTK (K := K) rfl) rfl T.z_isinstance (by decide +kernel) (pa_cons (pv 2) (pa_cons (pe_tup (pa_cons (pe_glob (v := .ref T.C_Endless) rfl T.mc_Endless rfl) (pa_cons (pe_glob (v := .ref T.C_NoBook) rfl T.mc_NoBook rfl) (pa_cons (pe_glob (v := .ref T.C_NoBounds) rfl T.mc_NoBounds rfl) (pa_cons (pe_glob (v := .ref T.C_NoHouse) rfl T.mc_NoHouse rfl) (pa_cons (pe_glob (v := .ref T.C_NoLine) rfl T.mc_NoLine rfl) (pa_cons (pe_glob (v := .ref T.C_NoPlan) rfl T.mc_NoPlan rfl) (pa_cons (pe_glob (v := .ref T.C_NoScript) rfl T.mc_NoScript rfl) (pa_cons (pe_glob (v := .ref T.C_NoStep) rfl T.mc_NoStep rfl) (pa_cons (pe_glob (v := .ref T.C_NotWaiting) rfl T.mc_NotWaiting rfl) pa_nil (star1 rfl)) (star1 rfl)) (star1 rfl)) (star1 rfl)) (star1 rfl)) (star1 rfl)) (star1 rfl)) (star1 rfl)) (star1 rfl))) pa_nil (star1 rfl)) (star1 rfl)) (by decide) (by decide) (star1 rfl) (starAll rfl)))
  (pss_cons (ps_set (i := 3) sc__law_refused.nd rfl (Or.inl rfl) (pe_or (pv 3) (pe_or (pe_callB (isxTK (K := K) rfl) rfl T.z_isinstance (by decide +kernel) (pa_cons (pv 2) (pa_cons (pe_tup (pa_cons (pe_glob (v := .ref T.C_NoText) rfl T.mc_NoText rfl) (pa_cons (pe_glob (v := .ref T.C_TooMany) rfl T.mc_TooMany rfl) (pa_cons (pe_glob (v := .ref T.C_Uneven) rfl T.mc_Uneven rfl) pa_nil (star1 rfl)) (star1 rfl)) (star1 rfl))) pa_nil (star1 rfl)) (star1 rfl)) (by decide) (by decide) (star1 rfl) (starAll rfl)) (pe_one (pe_not (pe_callB (isxK (K := K) rfl) rfl T.z_isinstance (by decide +kernel) (pa_cons (pv 2) (pa_cons (pe_bltn (v := .ty "ValueError") rfl T.z_ValueError (by decide +kernel) rfl) pa_nil (star1 rfl)) (star1 rfl)) (by decide) (by decide) (star1 rfl) (starAll rfl)))))))
  (pss_one (ps_ret (pe_and (pe_callB (isxK (K := K) rfl) rfl T.z_isinstance (by decide +kernel) (pa_cons (pv 2) (pa_cons (pe_glob (v := .ref T.C_NoName) rfl T.mc_NoName rfl) pa_nil (star1 rfl)) (star1 rfl)) (by decide) (by decide) (star1 rfl) (starAll rfl)) (pe_and (pe_not (pv 3)) (pe_one (pe_cmpR op_eq (pe_callB (reprYK (K := K) rfl hG (hu_r hr)) rfl T.z_repr (by decide +kernel) (pa_cons (pe_xk T.xc_NoName.xf T.na_NoName_name (pv 2) rfl) pa_nil (star1 rfl)) (by decide) (by decide) (star1 rfl) (starAll rfl)) (pe_callB (reprYK (K := K) rfl hG (hu_r hr)) rfl T.z_repr (by decide +kernel) (pa_cons (pv 1) pa_nil (star1 rfl)) (by decide) (by decide) (star1 rfl) (starAll rfl)) (nomark _))))))))))), ?_⟩
  refine q_asg (v := .non) ev_c fun H1 e1 => ?_
  refine q_seqM (fun σ' H' => Ex H H' ∧ ∃ a dd c3 c4, σ' = [some v, some x, some (.ref a), c3, c4] ∧ H' a = some (XcO (.ref T.C_NoName) (some dd) a) ∧ H' dd = some (.xd [("name", x)])) ?tail ?go
  case go =>
    intro R hR
    refine ⟨v, rfl, x, rfl, Or.inr ⟨v, x, n, b, ms, d, rfl, trv_tk (TK.ex e1) _ _ tv, tok, tdp, tsz, nd, dx_mono e1 (dy_dx hd), hno, fun dd H2 e2 nd' hdd => ?_⟩⟩
    refine ⟨true, T.xc_LockError.exm T.sb_NoName_LockError, fun _ a na' => ?_, fun z => nomatch z⟩
    refine ⟨.ref a, rfl, hR _ _ ⟨(e1.trans e2).trans (Ex.new na'), a, dd, _, _, rfl, upd_same, Ex.new na' _ _ hdd⟩⟩
  case tail =>
    rintro σ' H2 ⟨e2, a, dd, c3, c4, rfl, ha, hdd⟩
    obtain ⟨k1, k2, k3⟩ := kit53 T
    have xc := T.xc_NoName
    have x2 : XcAt H2 a T.C_NoName (some dd) := ⟨ha, fun d' z => by cases z; exact ⟨_, hdd⟩⟩
    refine q_asg (v := .bl false) (ev_isxT (cs := [T.C_Endless, T.C_NoBook, T.C_NoBounds, T.C_NoHouse, T.C_NoLine, T.C_NoPlan, T.C_NoScript, T.C_NoStep, T.C_NotWaiting]) rfl x2 xc (ea_cons ev_c (ea_cons ev_c (ea_cons ev_c (ea_cons ev_c (ea_cons ev_c (ea_cons ev_c (ea_cons ev_c (ea_cons ev_c (ea_cons ev_c ea_nil))))))))) (by simp) fun C hC => k1 C (by simp only [List.mem_cons, List.not_mem_nil, or_false] at hC ⊢; rcases hC with h | h | h | h | h | h | h | h | h <;> simp [h])) fun H3 e3 => ?_
    have x3 := x2.ex e3
    refine q_asg (v := .bl false) (ev_is (ev_orV (a := false) (b := false) (ev_var rfl) fun _ => ev_is (ev_orV (a := false) (b := false) (ev_isxT (cs := [T.C_NoText, T.C_TooMany, T.C_Uneven]) rfl x3 xc (ea_cons ev_c (ea_cons ev_c (ea_cons ev_c ea_nil))) (by simp) fun C hC => k1 C (by simp only [List.mem_cons, List.not_mem_nil, or_false] at hC ⊢; rcases hC with h | h | h <;> simp [h])) fun _ => ev_is (ev_notV (a := true) (ev_isx rfl x3 xc (.ty _) k3)) rfl) rfl) rfl) fun H4 e4 => ?_
    have x4 := x3.ex e4
    have e34 := e3.trans e4
    have e04 := e2.trans e34
    refine s_ret (ev_is (ev_andV (a := true) (b := true) (ev_isx rfl x4 xc (.own _) k2) fun _ => ev_is (ev_andV (a := true) (b := true) (ev_is (ev_notV (a := false) (ev_var rfl)) rfl) fun _ => ev_is (ev_eq (x := .str d.shown) (y := .str d.shown) (fun H5 e5 Q' q' => ⟨.ref a, rfl, a, dd, _, x, rfl, e5 _ _ (e34 _ _ ha), e5 _ _ (e34 _ _ hdd), by simp [List.lookup], x, d, rfl, dy_mono (e04.trans e5) hd, sh, y0.ex (e04.trans e5), q' H5 (Ex.refl H5)⟩) (fun H5 e5 Q' q' => ⟨x, rfl, x, d, rfl, dy_mono (e04.trans e5) hd, sh, y0.ex (e04.trans e5), q' H5 (Ex.refl H5)⟩) rfl) (by rw [decide_eq_true rfl])) rfl) rfl) fun H5 e5 => q H5 (e04.trans e5)
end
/-! ### the law -/
mutual
theorem trv_dy {K : PySem.W.Frag} {H : Hp} : ∀ (t : Tr) (v : V), TrV H v t → Dy K H v t.dat
  | .hand n, _, h => by cases h; simp only [Tr.dat]; exact .str n
  | .grp n b ms, _, h => by
    cases h with
    | grp h1 h2 h3 =>
      simp only [Tr.dat]
      exact .tup (st_of h1) (.cons (.str n) (.cons (.int b) (.cons (.tup (st_of h2) (trvs_dy ms _ h3)) .nil)))
theorem trvs_dy {K : PySem.W.Frag} {H : Hp} : ∀ (ts : List Tr) (vs : List V), TrVs H vs ts → DyAll K H vs (dats ts)
  | [], _, h => by cases h; simp only [dats]; exact .nil
  | t :: ts, _, h => by
    cases h with
    | cons h1 h2 =>
      simp only [dats]
      exact .cons (trv_dy t _ h1) (trvs_dy ts _ h2)
end
mutual
theorem turn_top : ∀ t : Tr, t.ok → t.turn ≤ ((1000000000 ^ t.deep : Nat) : Int)
  | .hand n, _ => by simp [Tr.turn, Tr.deep]
  | .grp n b ms, h => by
    simp only [Tr.ok] at h
    simp only [Tr.turn, Tr.deep]
    have h1 := maxs_top ms h.2.2.2
    have p0 : 1 ≤ 1000000000 ^ (deeps ms) := Nat.one_le_pow _ _ (by decide)
    have h2 := maxs_pos ms h.2.2.2 h.2.2.1
    have e : 1000000000 ^ (deeps ms + 1) = 1000000000 ^ (deeps ms) * 1000000000 := Nat.pow_succ _ _
    split
    · rw [e]
      omega
    · rw [e]
      have := Int.mul_le_mul (show b ≤ 1000000000 by omega) h1 (by omega) (by decide)
      rw [Int.natCast_mul, Int.mul_comm ((1000000000 ^ deeps ms : Nat) : Int)]
      exact this
theorem maxs_top : ∀ ts : List Tr, oks ts → maxs ts ≤ ((1000000000 ^ deeps ts : Nat) : Int)
  | [], _ => by simp [maxs, deeps]
  | t :: ts, h => by
    simp only [oks] at h
    have h1 := turn_top t h.1
    have h2 := maxs_top ts h.2
    simp only [maxs, deeps]
    have m1 : 1000000000 ^ t.deep ≤ 1000000000 ^ (max t.deep (deeps ts)) := Nat.pow_le_pow_right (by decide) (Nat.le_max_left _ _)
    have m2 : 1000000000 ^ deeps ts ≤ 1000000000 ^ (max t.deep (deeps ts)) := Nat.pow_le_pow_right (by decide) (Nat.le_max_right _ _)
    omega
end
theorem turn_shows {t : Tr} (ok : t.ok) (hd : t.deep ≤ 4) : showsY (.int t.turn) := by
  have h0 := turn_pos t ok
  have h1 := turn_top t ok
  have h2 : 1000000000 ^ t.deep ≤ 1000000000 ^ 4 := Nat.pow_le_pow_right (by decide) hd
  have h3 : 1000000000 ^ 4 < 2 ^ 120 := by decide
  have h4 : t.turn.natAbs < 2 ^ 120 := by omega
  have h5 : t.turn.natAbs.log2 < 120 := (Nat.log2_lt (by omega)).mpr h4
  refine ⟨?_, by simp [PyData.depth], ?_⟩
  · simp only [PyData.showable, decide_eq_true_eq]
    omega
  · simp only [PyData.shown]
    have := int_text_length_le (a := t.turn) (k := 120) (by decide) h5
    rw [PySem.ofString_length]
    omega
mutual
theorem gn_nms : ∀ t : Tr, ∀ x ∈ t.gn, x ∈ t.nms
  | .hand n, x, h => by cases h
  | .grp n b ms, x, h => by
    simp only [Tr.gn] at h
    simp only [Tr.nms]
    rcases List.mem_cons.mp h with z | z
    · rw [z]
      exact List.mem_cons_self
    · exact List.mem_cons_of_mem _ (gns_nmss ms x z)
theorem gns_nmss : ∀ ts : List Tr, ∀ x ∈ gns ts, x ∈ nmss ts
  | [], x, h => by cases h
  | t :: ts, x, h => by
    simp only [gns] at h
    simp only [nmss]
    rcases List.mem_append.mp h with z | z
    · exact List.mem_append_left _ (gn_nms t x z)
    · exact List.mem_append_right _ (gns_nmss ts x z)
end
theorem hd_nms (ms : List Tr) : ∀ x ∈ hdTs ms, x ∈ nmss ms := fun x hx => by
  rw [← trns_keys]
  exact List.mem_map.mpr ⟨_, trns_hd ms x hx, rfl⟩
theorem nl_strOk {x : Str} (h : nameOk x) : PyData.strOk x = true := ok_lay h
theorem lst_turns53 {K : PySem.W.Frag} {a : Addr} {xs : List V} {g : TG} {tb tz : TS} {D : Ends} {σ : L2.St} {H : Hp} (Pv : Nat → L2.St → Hp → Prop) (h0 : Pv 0 σ H) (hl : ∀ i σ H, i ≤ xs.length → Pv i σ H → SqL K H a xs)
    (hs : ∀ i x σ' H', xs[i]? = some x → Pv i σ' H' → g x σ' H' fun σ2 H2 => tb { D with nx := Pv (i + 1), ct := Pv (i + 1), bk := tz D } σ2 H2) (hd : ∀ σ' H', Pv xs.length σ' H' → tz D σ' H') :
    ∃ W : Nat → Nat → L2.St → Hp → Prop, (∃ m, W 0 m σ H) ∧ ∀ i m σ H, W i m σ H →
    ((Itl K a).stop i H ∧ tz D σ H) ∨ ((Itl K a).go i H ∧ ∃ N : L2.St → Hp → Prop, (∀ σ' H', N σ' H' → ∃ m', m' < m ∧ W (i + 1) m' σ' H') ∧ ∀ x H', (Itl K a).yld i H x H' → g x σ H' fun σ2 H2 => tb { D with nx := N, ct := N, bk := tz D } σ2 H2) :=
  for_list (K := K) (a := a) (xs := xs) (D := { D with nx := tz D }) Pv h0 hl hs hd
theorem s_forW {wi : TI} {g : TG} {tb : TS} {D : Ends} {σ : L2.St} {H : Hp} (h : wi σ H fun J H1 => ∃ W : Nat → Nat → L2.St → Hp → Prop, (∃ m, W 0 m σ H1) ∧ ∀ i m σ H, W i m σ H →
    (J.stop i H ∧ D.nx σ H) ∨ (J.go i H ∧ ∃ N : L2.St → Hp → Prop, (∀ σ' H', N σ' H' → ∃ m', m' < m ∧ W (i + 1) m' σ' H') ∧ ∀ x H', J.yld i H x H' → g x σ H' fun σ2 H2 => tb { D with nx := N, ct := N, bk := D.nx } σ2 H2)) : tFor wi g tb D σ H := h
theorem or_raw {t u : TT} {σ : L2.St} {H : Hp} {Q : Bool → Hp → Prop} (h : t σ H fun c H1 => if c = true then Q true H1 else u σ H1 Q) : tOr t u σ H Q := h
theorem notN_raw {te : TE} {σ : L2.St} {H : Hp} {Q : VK} (h : te σ H fun x H1 => Q (.bl (!decide (x = .non))) H1) : tNotN te σ H Q := h
theorem hu_e66 {k : Nat} {A : Around} (hr : Room k A) : A.units + 66 < cLine := by
  have := hu_r hr
  omega
/-- a thing that is no name of a plan of letters -/
def TH (K : PySem.W.Frag) (H : Hp) (ns : List Str) (v : V) : Prop := ∃ d, Dy K H v d ∧ showsY d ∧ (∀ z, d = .str z → z ∉ ns) ∧ ((Dp K H v d ∧ SeqAt.shaped d = true ∧ ∀ xs : List Str, (∀ x ∈ xs, x ∈ ns) → (xs.any fun z => PyData.eqv (.str z) d) = false) ∨ ∃ a ks, v = .ref a ∧ H a = some (.dK ks))
theorem TH.ex {K : PySem.W.Frag} {H H' : Hp} {ns : List Str} {v : V} (h : TH K H ns v) (e : Ex H H') : TH K H' ns v := by
  obtain ⟨d, h1, h2, h3, h4⟩ := h
  refine ⟨d, dy_mono e h1, h2, h3, ?_⟩
  rcases h4 with ⟨a, b, c⟩ | ⟨a, ks, b, c⟩
  · exact Or.inl ⟨dp_mono e a, b, c⟩
  · exact Or.inr ⟨a, ks, b, e _ _ c⟩
theorem any_no {d : PyData} (h : ∀ z : Str, PyData.eqv (.str z) d = false) {ns : List Str} : ∀ xs : List Str, (∀ x ∈ xs, x ∈ ns) → (xs.any fun z => PyData.eqv (.str z) d) = false := fun xs _ => by
  rw [List.any_eq_false]
  intro x _
  rw [h x]
  exact Bool.false_ne_true
theorem any_str {z : Str} {ns : List Str} (h : z ∉ ns) : ∀ xs : List Str, (∀ x ∈ xs, x ∈ ns) → (xs.any fun y => PyData.eqv (.str y) (.str z)) = false := fun xs hx => by
  rw [List.any_eq_false]
  intro x m e
  have : x = z := by
    simp only [PyData.eqv] at e
    exact eq_of_beq e
  exact h (this ▸ hx x m)
def spLaw (K : PySem.W.Frag) : Sp := fun vs H Q _ => ∃ (a : Addr) (ns : List Int), vs = [.ref a] ∧ SqL K H a (ns.map V.int) ∧ ns.length ≤ 63 ∧ Sy K H ∧ ∀ H', Q (.bl true) H'
section
variable {K : PySem.W.Frag} {H : Hp} {ns : List Str}
theorem th_of {v : V} {d : PyData} (dy : Dy K H v d) (sh : showsY d) (no : ∀ z, d ≠ .str z) (dp : Dp K H v d) (sp : SeqAt.shaped d = true) (ne : ∀ z : Str, PyData.eqv (.str z) d = false) : TH K H ns v := ⟨d, dy, sh, fun z e => absurd e (no z), Or.inl ⟨dp, sp, any_no ne⟩⟩
theorem TH.notIn {v : V} (h : TH K H ns v) {r : Addr} {xs : List Str} {H' : Hp} {Q : VK} (e : Ex H H') (hr : H' r = some (.lst (xs.map V.str))) (hx : ∀ x ∈ xs, x ∈ ns) (hn : ∀ x ∈ xs, nameOk x) (q : Q (.bl true) H') : rNotInT K v (.ref r) H' Q := by
  obtain ⟨d, h1, h2, h3, h4⟩ := h
  refine ⟨r, xs, rfl, sq_of hr, List.all_eq_true.mpr fun z hz => nl_strOk (hn z hz), ?_⟩
  rcases h4 with ⟨a, b, c⟩ | ⟨a, ks, b, c⟩
  · refine Or.inl ⟨d, dp_mono e a, b, ?_⟩
    rw [c xs hx]
    exact q
  · exact Or.inr ⟨a, ks, b, e _ _ c, q⟩
theorem th_str {z : Str} (ha : asc z) (hl : z.length ≤ 100) (h : z ∉ ns) (hs : PyData.strOk z = true) : TH K H ns (.str z) := ⟨.str z, .str z, shows_of (B := 2) (W := 100000) (D := 1) (by decide) (by simp only [okD]; exact ha) (by simp only [NL.wt]; omega) (by simp [PyData.depth]) (by decide) (by decide), fun y e => by cases e; exact h, Or.inl ⟨.str z, by unfold SeqAt.shaped; rw [Bool.and_eq_true]; exact ⟨hs, decide_eq_true (by simp [PyData.depth])⟩, any_str h⟩⟩
end
section
variable {P : Program} {w : World} {K : PySem.W.Frag} {mg : Str → Option Value} {base : Heap}
theorem ok_law (T : Tp w K mg) : FnG P w K mg base 27 T.f_law T.d_law ["_law_script"] (spLaw K) := by
  refine fun_g T.F_law sc_law (fun vs H Q E h => ?_) (fun cdv A outer s H vs Q E hG hr h => ?_)
  · obtain ⟨a, ns, rfl, _⟩ := h
    rfl
  obtain ⟨a, ns, rfl, hS, h63, y0, q⟩ := h
  refine ⟨_, (pss_cons (ps_for PassesOwn.never rfl (pi_range1 rfl T.z_range (pa_cons (pe_op op_add pe_int (pe_callB (call_min2 rfl) rfl T.z_min (by decide +kernel) (pa_cons pe_int (pa_cons (pe_callB (lenK (K := K) rfl) rfl T.z_len PySem.boot_len (pa_cons (pv 0) pa_nil (star1 rfl)) (by decide) (by decide) (star1 rfl) (starAll rfl)) pa_nil (star1 rfl)) (star1 rfl)) (by decide) (by decide) (star1 rfl) (starAll rfl))) pa_nil (star1 rfl))) (pg_name (i := 1) sc_law.nd rfl (Or.inl rfl)) (pss_cons (ps_set (i := 2) sc_law.nd rfl (Or.inl rfl) (pe_call (ok__law_hand T) (hr.mono (by decide)) rfl T.m__law_hand T.F__law_hand.kp (b__law_hand T) .nil pass0 (pa_cons (pv 0) (pa_cons (pv 1) pa_nil (star1 rfl)) (star1 rfl)) (by decide) (star1 rfl) (starAll rfl)))
  (pss_one (ps_for PassesOwn.never rfl (piTK (K := K) rfl (pe_tup (pa_cons pe_bl (pa_cons pe_bl pa_nil (star1 rfl)) (star1 rfl)))) (pg_name (i := 3) sc_law.nd rfl (Or.inl rfl)) (pss_cons (ps_set (i := 4) sc_law.nd rfl (Or.inr rfl) (pe_call (ok__law_great T) (hr.mono (by decide)) rfl T.m__law_great T.F__law_great.kp (b__law_great T) .nil pass0 (pa_cons (pv 2) (pa_cons (pe_call (ok__law_plan T) (hr.mono (by decide)) rfl T.m__law_plan T.F__law_plan.kp (b__law_plan T) .nil pass0 (pa_cons (pv 2) (pa_cons (pv 3) pa_nil (star1 rfl)) (star1 rfl)) (by decide) (star1 rfl) (starAll rfl)) pa_nil (star1 rfl)) (star1 rfl)) (by decide) (star1 rfl) (starAll rfl)))
  (pss_cons (ps_par rfl sc_law.nd (i := 5) (j := 6) rfl rfl (by decide) rfl rfl (pa_cons (pe_callB (reprYK (K := K) rfl hG (hu_r hr)) rfl T.z_repr (by decide +kernel) (pa_cons (pv 4) pa_nil (star1 rfl)) (by decide) (by decide) (star1 rfl) (starAll rfl)) (pa_cons (pe_lc (own := [("_law_group", 11)]) (g := gName 11) rfl sc_law.nd (plLK (K := K) rfl (pe_call (ok__law_groups T) (hr.mono (by decide)) rfl T.m__law_groups T.F__law_groups.kp (b__law_groups T) .nil pass0 (pa_cons (pv 4) pa_nil (star1 rfl)) (by decide) (star1 rfl) (starAll rfl))) (blkOk_by (N := N_law) (sc := defScope s_law) (by decide +kernel)) (fun _ _ _ _ _ => (pg_name (i := 11) sc_law.nd rfl (Or.inl rfl))) (fun _ _ _ _ _ => (pts_one (pt_cmpR op_ne (pe_ix (ixTK (K := K) rfl) (pv 11) pe_int (fun _ _ => rfl)) (pe_ix (ixTK (K := K) rfl) (pv 4) pe_int (fun _ _ => rfl)) (nomark _)))) (fun _ _ _ _ _ => (pv 11))) pa_nil (star1 rfl)) (star1 rfl)) (by rfl))
  (pss_cons (ps_for PassesOwn.never rfl (plLK (K := K) rfl (pe_op op_cat (pe_call (ok__law_hands T) (hr.mono (by decide)) rfl T.m__law_hands T.F__law_hands.kp (b__law_hands T) .nil pass0 (pa_cons (pv 4) pa_nil (star1 rfl)) (by decide) (star1 rfl) (starAll rfl)) (pv 6))) (pg_name (i := 7) sc_law.nd rfl (Or.inl rfl)) (pss_cons (ps_set (i := 9) sc_law.nd rfl (Or.inl rfl) (pe_ifExp (pt_val (pe_callB (isiK (K := K) rfl) rfl T.z_isinstance (by decide +kernel) (pa_cons (pv 7) (pa_cons (pe_bltn (v := .ty "str") rfl T.z_str (by decide +kernel) rfl) pa_nil (star1 rfl)) (star1 rfl)) (by decide) (by decide) (star1 rfl) (starAll rfl))) (pv 7) (pe_ix (ixTK (K := K) rfl) (pv 7) pe_int (fun _ _ => rfl))))
  (pss_one (ps_if (pt_cmpR op_ne (pe_callB (reprYK (K := K) rfl hG (hu_r hr)) rfl T.z_repr (by decide +kernel) (pa_cons (pe_call (ok_turn_of T) (hr.mono (by decide)) rfl T.m_turn_of T.F_turn_of.kp (b_turn_of T) .nil pass0 (pa_cons (pv 4) (pa_cons (pv 9) pa_nil (star1 rfl)) (star1 rfl)) (by decide) (star1 rfl) (starAll rfl)) pa_nil (star1 rfl)) (by decide) (by decide) (star1 rfl) (starAll rfl)) (pe_callB (reprYK (K := K) rfl hG (hu_r hr)) rfl T.z_repr (by decide +kernel) (pa_cons (pe_call (ok__law_turn T) (hr.mono (by decide)) rfl T.m__law_turn T.F__law_turn.kp (b__law_turn T) .nil pass0 (pa_cons (pv 7) pa_nil (star1 rfl)) (by decide) (star1 rfl) (starAll rfl)) pa_nil (star1 rfl)) (by decide) (by decide) (star1 rfl) (starAll rfl)) (nomark _)) (pss_one (ps_ret pe_bl)) pss_nil))))
  (pss_cons (ps_if (PW.pt (pw_or (pt_cmp (pc_notN (pe_call (ok_turn_of T) (hr.mono (by decide)) rfl T.m_turn_of T.F_turn_of.kp (b_turn_of T) .nil pass0 (pa_cons (pv 4) (pa_cons (pe_ix (ixTK (K := K) rfl) (pv 4) pe_int (fun _ _ => rfl)) pa_nil (star1 rfl)) (star1 rfl)) (by decide) (star1 rfl) (starAll rfl)))) (pw_or1 (pt_cmpR op_ne (pe_callB (reprYK (K := K) rfl hG (hu_r hr)) rfl T.z_repr (by decide +kernel) (pa_cons (pv 4) pa_nil (star1 rfl)) (by decide) (by decide) (star1 rfl) (starAll rfl)) (pv 5) (nomark _))))) (pss_one (ps_ret pe_bl)) pss_nil)
  (pss_cons (ps_set (i := 8) sc_law.nd rfl (Or.inl rfl) (pe_lst (pa_cons pe_non (pa_cons pe_int (pa_cons pe_bl (pa_cons pe_str (pa_cons pe_str (pa_cons pe_str (pa_cons pe_str (pa_cons (pe_tup pa_nil) (pa_cons (pe_lst pa_nil) (pa_cons pe_dnewK (pa_cons (pv 4) (pa_cons (pe_tup (pa_cons (pe_ix (ixTK (K := K) rfl) (pv 4) pe_int (fun _ _ => rfl)) pa_nil (star1 rfl))) (pa_cons (pe_lst (pa_cons (pe_ix (ixTK (K := K) rfl) (pv 4) pe_int (fun _ _ => rfl)) pa_nil (star1 rfl))) (pa_cons (pe_un un_neg pe_int) (pa_cons (pe_tup (pa_cons pe_str pa_nil (star1 rfl))) pa_nil (star1 rfl)) (star1 rfl)) (star1 rfl)) (star1 rfl)) (star1 rfl)) (star1 rfl)) (star1 rfl)) (star1 rfl)) (star1 rfl)) (star1 rfl)) (star1 rfl)) (star1 rfl)) (star1 rfl)) (star1 rfl)) (star1 rfl))))
  (pss_cons (ps_setLc (i := 8) (own := [("_law_thing", 10)]) (g := gName 10) rfl sc_law.nd rfl rfl (sw_true rfl rfl rfl (by decide +kernel)) (plLK (K := K) rfl (pv 8)) (blkOk_by (N := N_law) (sc := defScope s_law) (by decide +kernel)) (fun _ _ _ _ _ => (pg_name (i := 10) sc_law.nd rfl (Or.inl rfl))) (fun _ _ _ _ _ => (pts_one (pt_cmpR (notInT (K := K) rfl (hu_e66 hr)) (pv 10) (pe_call (ok__law_hands T) (hr.mono (by decide)) rfl T.m__law_hands T.F__law_hands.kp (b__law_hands T) .nil pass0 (pa_cons (pv 4) pa_nil (star1 rfl)) (by decide) (star1 rfl) (starAll rfl)) (by with_unfolding_all rfl)))) (fun _ _ _ _ _ => (pv 10)))
  (pss_one (ps_if (pt_not (pt_val (pe_callB (allK (K := K) rfl rfl) rfl T.z_all (by decide +kernel) (pa_cons (pe_lc (own := [("_law_thing", 10)]) (g := gName 10) (tt := tYes) rfl sc_law.nd (plLK (K := K) rfl (pv 8)) (blkOk_by (N := N_law) (sc := defScope s_law) (by decide +kernel)) (fun _ _ _ _ _ => (pg_name (i := 10) sc_law.nd rfl (Or.inl rfl))) (fun _ _ _ _ _ => pts_nil) (fun _ _ _ _ _ => (pe_callG (ok__law_refused T) hG (hr.mono (by decide)) rfl T.m__law_refused T.F__law_refused.kp (b__law_refused T) (pa_cons (pv 4) (pa_cons (pv 10) pa_nil (star1 rfl)) (star1 rfl))))) pa_nil (star1 rfl)) (by decide) (by decide) (star1 rfl) (starAll rfl)))) (pss_one (ps_ret pe_bl)) pss_nil))))))))))))
  (pss_one (ps_ret pe_bl))), ?_⟩
  refine q_forR1 (n := 1 + (if (ns.length : Int) < 3 then (ns.length : Int) else 3)) (ea_cons (ev_I0 (g := fun i j => .int (i + j)) ev_c (ev_cb (ea_cons ev_c (ea_cons (ev_is (ev_len (ev_var rfl) hS) (by rw [List.length_map])) ea_nil)) fun H1 e Q' q' => ⟨_, _, rfl, q' H1 (Ex.refl H1)⟩)) ea_nil) (by split <;> omega) (fun i σ' H' => Ex H H' ∧ ∃ c1 c2 c3 c4 c5 c6 c7 c8 c9, σ' = [some (.ref a), c1, c2, c3, c4, c5, c6, c7, c8, c9, none, none]) ?_ ?_ ?_
  · intro H1 e1
    exact ⟨e1, _, _, _, _, _, _, _, _, _, rfl⟩
  rotate_left
  · intro σ' H1 hP
    exact s_ret ev_c fun H2 e2 => q H2
  rintro k σ' H1 hk ⟨e1, c1, c2, c3, c4, c5, c6, c7, c8, c9, rfl⟩
  have hk63 : k ≤ 63 := by
    have : (k : Int) < 1 + (if (ns.length : Int) < 3 then (ns.length : Int) else 3) := by omega
    split at this <;> omega
  have y1 := y0.ex e1
  refine q_asgP ?_
  refine ⟨_, rfl, _, rfl, a, ns, k, by first | rfl | simp, ex_l e1 hS, h63, hk63, fun h H2 e2 hh A2 => ?_⟩
  -- even, and not
  refine s_forW ?_
  refine tup_raw (cons_raw (tc_raw (cons_raw (tc_raw (tn_raw ⟨by show 2 ≤ sizeLine; decide, fun p hp => ⟨p, rfl, ⟨_, st_of upd_same⟩, ?_⟩⟩)))))
  have e3 := Ex.new (o := .tup [.bl true, .bl false]) hp
  have hp3 : upd H2 p (.tup [.bl true, .bl false]) p = some (.tup [.bl true, .bl false]) := upd_same
  have A3 := A2.ex e3
  generalize upd H2 p (.tup [.bl true, .bl false]) = H3 at e3 hp3 A3 ⊢
  have e13 := e2.trans e3
  refine for_tup (K := K) (a := p) (xs := [.bl true, .bl false]) (fun i σ' H' => Ex H1 H' ∧ Bx H' h (130 * i) ∧ H' p = some (.tup [.bl true, .bl false]) ∧ ∃ c3 c4 c5 c6 c7 c8 c9, σ' = [some (.ref a), some (.int (k : Int)), some (.ref h), c3, c4, c5, c6, c7, c8, c9, none, none]) ⟨e13, A3, hp3, _, _, _, _, _, _, _, rfl⟩ (fun i σ' H' _ hP => st_of hP.2.2.1) ?_ ?_
  rotate_left
  · rintro σ' H4 ⟨e4, _, _, c3, c4, c5, c6, c7, c8, c9, rfl⟩
    exact ⟨e1.trans e4, _, _, _, _, _, _, _, _, _, rfl⟩
  rintro i x σ' H4 hx ⟨e4, A4, hp4, c3, c4, c5, c6, c7, c8, c9, rfl⟩
  have hi2 : i < 2 := (List.getElem?_eq_some_iff.mp hx).1
  obtain ⟨ev, rfl⟩ : ∃ ev : Bool, x = .bl ev := by
    have := List.mem_of_getElem? hx
    simp only [List.mem_cons, List.not_mem_nil, or_false] at this
    rcases this with rfl | rfl
    · exact ⟨true, rfl⟩
    · exact ⟨false, rfl⟩
  -- the plan
  refine q_asgP (call_raw (cons_raw ⟨_, rfl, cons_raw (call_raw (cons_raw ⟨_, rfl, cons_raw ⟨_, rfl, tn_raw ?_⟩⟩))⟩))
  refine ⟨h, ev, _, rfl, A4, by omega, fun v0 n d ms0 H5 A5 k5 tv5 pg => tn_raw ?_⟩
  have psz := pg.sz
  have pdp := pg.dp
  refine ⟨h, _, v0, n, d, ms0, rfl, A5, by omega, tv5, pg.ok, by omega, by omega, fun v b ms H6 A6 k6 tv6 ok6 dp6 sz6 nm6 => ?_⟩
  have k46 := k5.trans k6
  have e16 : Ex H1 H6 := ex_kp e4 hh k46
  have y6 := y1.ex e16
  have tnm : ∀ x ∈ (Tr.grp n b ms).nms, nameOk x := by rw [nm6]; exact pg.nm
  have tnd : (Tr.grp n b ms).nms.Nodup := by rw [nm6]; exact pg.un
  have tln : ∀ x ∈ (Tr.grp n b ms).nms, x.length = 1 := by rw [nm6]; exact pg.ln
  have tdp : (Tr.grp n b ms).deep ≤ 3 := by omega
  have tsz : (Tr.grp n b ms).size ≤ 30 := by omega
  have php : p ≠ h := fun z => by
    obtain ⟨_, _, _, B⟩ := A4
    rw [z, B.hh] at hp4
    cases hp4
  have hp6 := k46 _ _ php php hp4
  have A6' : Bx H6 h (130 * (i + 1)) := A6.up (by omega)
  have tnd2 := tnd
  simp only [Tr.nms, List.nodup_cons] at tnd2
  have nms_sub : ∀ x ∈ nmss ms, x ∈ (Tr.grp n b ms).nms := fun x hx => by
    simp only [Tr.nms]
    exact List.mem_cons_of_mem _ hx
  have nog : n ∉ gns ms := fun z => tnd2.1 (gns_nmss ms n z)
  have ok6' := ok6
  simp only [Tr.ok] at ok6'
  have szm : sizes ms ≤ 30 := by simp only [Tr.size] at tsz; omega
  have dpm : deeps ms ≤ 3 := by simp only [Tr.deep] at tdp; omega
  clear A4 A5 k5 k6 tv5 pg nm6 sz6 dp6 psz pdp
  have sh : showsY (Tr.grp n b ms).dat := by
    obtain ⟨w1, _, w3, w4⟩ := dat_wt (Tr.grp n b ms) tnm ok6
    exact shows_of (B := 2 ^ 30) (W := 6000) (D := 10) (by decide) w4 (by omega) (by omega) (by decide) (by decide)
  -- as it is, and its groups
  refine q_parP ?_
  refine cons_raw (cb_raw (cons_raw ⟨_, rfl, tn_raw ⟨v, _, rfl, trv_dy _ _ tv6, sh, y6, ?_⟩⟩))
  refine cons_raw ?_
  refine ⟨_, rfl, v, n, b, ms, rfl, tv6, by omega, by omega, fun r gs H7 hr0 e7 h7 tvs => ⟨r, rfl, ⟨gs, sq_of h7⟩, fun D hD => ?_⟩⟩
  have gl := gs_len (.grp n b ms)
  have gl2 := trvs_len tvs
  obtain ⟨av, mv, xsv, rfl, hav⟩ : ∃ av mv xsv, v = .ref av ∧ H6 av = some (.tup [.str n, .int b, .ref mv]) ∧ True := by
    cases tv6 with
    | @grp a' m' _ _ xs' _ g1 g2 g3 => exact ⟨a', m', xs', rfl, g1, trivial⟩
  have hav := hav.1
  refine lc_list (K := K) (a := r) (xs := gs) (fun i H' => Ex H7 H' ∧ ∃ ys, H' D = some (.lst ys) ∧ TrVs H7 ys (((gsT (.grp n b ms)).take i).filter fun t => decide (nameT t ≠ n))) ⟨Ex.new hD, [], upd_same, .nil⟩ (fun i H' _ hP => sq_of (hP.1 _ _ h7)) ?_ ?_
  · rintro i x H8 hx ⟨e8, ys, hacc, tys⟩
    obtain ⟨u, hu, tu⟩ := trvs_get tvs hx
    obtain ⟨_, _, _, n', b', ms', rfl⟩ := gs_fine _ ok6 u (List.mem_of_getElem? hu)
    cases tu with
    | @grp a' m' _ _ xs' _ g1 g2 g3 =>
      refine ⟨rfl, ?_⟩
      have tt : ∀ {σ : L2.St}, σ[11]? = some (some (.ref a')) → σ[4]? = some (some (.ref av)) → EvT (tTest (tOp rNe (tOp (rIxT K) (tVar 11) (tC (.int 0))) (tOp (rIxT K) (tVar 4) (tC (.int 0))))) σ H8 (!decide (V.str n' = V.str n)) := fun h1 h2 => et_test (ev_ne (ev_ixT (v := .str n') (ev_var h1) ev_c (st_of (e8 _ _ g1)) rfl) (ev_ixT (v := .str n) (ev_var h2) ev_c (st_of ((e7.trans e8) _ _ hav)) rfl) rfl)
      refine (tt rfl rfl) H8 (Ex.refl H8) _ fun H9 e9 => ?_
      have ft : (gsT (.grp n b ms)).take (i + 1) = (gsT (.grp n b ms)).take i ++ [.grp n' b' ms'] := by
        obtain ⟨hi, hh⟩ := List.getElem?_eq_some_iff.mp hu
        rw [List.take_succ_eq_append_getElem hi, hh]
      have yl := trvs_len tys
      have yl2 := List.length_filter_le (fun t => decide (nameT t ≠ n)) ((gsT (.grp n b ms)).take i)
      have yl3 : ((gsT (.grp n b ms)).take i).length ≤ 1000 := by rw [List.length_take]; omega
      refine ite2 (fun hb => ?_) (fun hb => ?_)
      · have hne : n' ≠ n := by simpa using hb
        refine ⟨_, rfl, ys, e9 _ _ hacc, sz_lt (by omega), Ex.mut (e8.trans e9) hD, ys ++ [.ref a'], upd_same, ?_⟩
        rw [ft, List.filter_append]
        refine trvs_app tys ?_
        have : ([Tr.grp n' b' ms'].filter fun t => decide (nameT t ≠ n)) = [.grp n' b' ms'] := by simp [nameT, hne]
        rw [this]
        exact .cons (.grp g1 g2 g3) .nil
      · have hne : n' = n := by simpa using hb
        refine ⟨e8.trans e9, ys, e9 _ _ hacc, ?_⟩
        rw [ft, List.filter_append]
        have : ([Tr.grp n' b' ms'].filter fun t => decide (nameT t ≠ n)) = [] := by simp [nameT, hne]
        rw [this, List.append_nil]
        exact tys
  rintro H8 ⟨e8, ys, hacc, tys⟩
  rw [gl2, List.take_length, inner_filter nog] at tys
  have yl := trvs_len tys
  have yl2 := gss_len ms
  refine tn_raw ⟨_, _, rfl, ?_⟩
  have e68 := e7.trans e8
  have tv8 := trv_tk (TK.ex e68) _ _ tv6
  -- each of them
  refine q_forU ?_
  refine op_raw (call_raw (cons_raw ⟨_, rfl, tn_raw ?_⟩))
  refine ⟨.ref av, n, b, ms, rfl, tv8, by omega, by omega, fun r2 H9 e9 h9 => ⟨_, rfl, r2, D, _, _, rfl, rfl, h9, e9 _ _ hacc, ?_, fun r3 hr3 => ?_⟩⟩
  · have l1 := hdTs_len ms
    have l2 := hns_size ms
    exact sz_of (by rw [List.length_map]; omega)
  have e10 := Ex.new (o := .lst ((hdTs ms).map V.str ++ ys)) hr3
  have h10 : upd H9 r3 (.lst ((hdTs ms).map V.str ++ ys)) r3 = some (.lst ((hdTs ms).map V.str ++ ys)) := upd_same
  generalize upd H9 r3 (.lst ((hdTs ms).map V.str ++ ys)) = H10 at e10 h10 ⊢
  have e610 := e68.trans (e9.trans e10)
  have tys10 := trvs_tk (TK.ex (e8.trans (e9.trans e10))) _ _ tys
  have all : ∀ x ∈ (hdTs ms).map V.str ++ ys, ∃ t, TrV H10 x t ∧ t.ok ∧ t.deep ≤ 3 ∧ t.size ≤ 30 ∧ (nameT t, t.turn) ∈ trnTs ms := fun x hx => by
    rcases List.mem_append.mp hx with z | z
    · obtain ⟨m, hm, rfl⟩ := List.mem_map.mp z
      refine ⟨.hand m, .hand m, trivial, Nat.zero_le _, by simp [Tr.size], ?_⟩
      have := trns_hd ms m hm
      simpa [nameT, Tr.turn] using this
    · obtain ⟨j, hj⟩ := List.getElem?_of_mem z
      obtain ⟨u, hu, tu⟩ := trvs_get tys10 hj
      have um := List.mem_of_getElem? hu
      obtain ⟨o1, o2, o3, _⟩ := gss_fine ms ok6'.2.2.2 u um
      exact ⟨u, tu, o1, by omega, by omega, trns_gs ms u um⟩
  refine ⟨r3, rfl, ⟨_, sq_of h10⟩, ?_⟩
  refine lst_turns53 (K := K) (a := r3) (xs := (hdTs ms).map V.str ++ ys) (fun j σ' H' => Ex H10 H' ∧ ∃ c7 c8 c9, σ' = [some (.ref a), some (.int (k : Int)), some (.ref h), some (.bl ev), some (.ref av), some (.str (Tr.grp n b ms).dat.shown), some (.ref D), c7, c8, c9, none, none]) ⟨Ex.refl _, _, _, _, rfl⟩ (fun j σ' H' _ hP => sq_of (hP.1 _ _ h10)) ?_ ?_
  · rintro j x σ' H11 hx ⟨e11, c7, c8, c9, rfl⟩
    obtain ⟨t, tx, tok, tdp', tsz', tmem⟩ := all x (List.mem_of_getElem? hx)
    have tx11 := trv_tk (TK.ex e11) _ _ tx
    have e611 := e610.trans e11
    have y11 := y6.ex e611
    refine q_asgR (fun u H' => Ex H11 H' ∧ u = .str (nameT t)) (fun R hR => ?_) ?_
    · refine (et_B (ev_isHand (ev_var rfl) tx11)) H11 (Ex.refl H11) _ fun H12 e12 => ite2 (fun hb => ?_) (fun hb => ?_)
      · cases tx11 with
        | hand m => exact ⟨_, rfl, hR _ _ ⟨e12, rfl⟩⟩
        | grp _ _ _ => cases hb
      · cases tx11 with
        | hand m => exact absurd rfl hb
        | @grp a' m' n' b' xs' ms' g1 g2 g3 =>
          exact (ev_ixT (v := .str n') (ev_var rfl) ev_c (st_of (e12 _ _ g1)) rfl) H12 (Ex.refl H12) _ fun H13 e13 => hR _ _ ⟨e12.trans e13, rfl⟩
    rintro _ H12 ⟨e12, rfl⟩
    have e612 := e611.trans e12
    have tsh := turn_shows tok (by omega)
    refine s_ifP (tst_raw (op_raw (cb_raw (cons_raw (call_raw (cons_raw ⟨_, rfl, cons_raw ⟨_, rfl, tn_raw ?_⟩⟩))))))
    refine ⟨.ref av, n, nameT t, b, ms, rfl, trv_tk (TK.ex e612) _ _ tv6, ok6, by omega, by omega, tnd, Or.inr ⟨_, tmem⟩, fun u H13 e13 _ hu => ?_⟩
    rw [hu _ tmem]
    have y13 := (y6.ex e612).ex e13
    refine tn_raw ⟨_, _, rfl, .int t.turn, tsh, y13, cb_raw (cons_raw (call_raw (cons_raw ⟨_, rfl, tn_raw ?_⟩)))⟩
    refine ⟨x, t, rfl, trv_tk (TK.ex ((e11.trans e12).trans e13)) _ _ tx, tok, by omega, by omega, by omega, fun H14 e14 => ?_⟩
    refine tn_raw ⟨_, _, rfl, .int t.turn, tsh, y13.ex e14, rfl, _, rfl, ?_⟩
    refine iteF' (by rw [decide_eq_true rfl]; rfl) (nx_tn ?_)
    exact ⟨(e11.trans e12).trans (e13.trans e14), _, _, _, rfl⟩
  rintro σ' H11 ⟨e11, c7, c8, c9, rfl⟩
  have e611 := e610.trans e11
  -- the whole
  refine q_ifQ (or_raw (tB_raw (notN_raw (call_raw (cons_raw ⟨_, rfl, cons_raw ?_⟩)))))
  refine (ev_ixT (v := .str n) (ev_var rfl) ev_c (st_of (e611 _ _ hav)) rfl) H11 (Ex.refl H11) _ fun H12 e12 => tn_raw ?_
  have e612 := e611.trans e12
  refine ⟨.ref av, n, n, b, ms, rfl, trv_tk (TK.ex e612) _ _ tv6, ok6, by omega, by omega, tnd, Or.inl rfl, fun u H13 e13 hu _ => ?_⟩
  rw [hu rfl]
  refine ⟨_, rfl, iteF' rfl ?_⟩
  have e613 := e612.trans e13
  refine tst_raw (op_raw (cb_raw (cons_raw ⟨_, rfl, tn_raw ⟨.ref av, _, rfl, trv_dy _ _ (trv_tk (TK.ex e613) _ _ tv6), sh, y6.ex e613, ⟨_, rfl, rfl, _, rfl, ?_⟩⟩⟩)))
  refine iteF' (by rw [decide_eq_true rfl]; rfl) ?_
  clear all tys10 h10 hr3 tys hacc hr0 hD h7 tvs gl gl2
  have hav13 := e613 _ _ hav
  have hp13 := e613 _ _ hp6
  have A13 := A6'.ex e613
  have e113 := e16.trans e613
  have y13 := y1.ex e113
  have tv13 := trv_tk (TK.ex e613) _ _ tv6
  -- things that are no names
  refine q_asgP (lst_raw (cons_raw (tc_raw (cons_raw (tc_raw (cons_raw (tc_raw (cons_raw (tc_raw (cons_raw (tc_raw (cons_raw (tc_raw (cons_raw (tc_raw (cons_raw (tup_raw (tn_raw ⟨by show 0 ≤ sizeLine; decide, fun p1 np1 => ?_⟩))))))))))))))))))
  have w1 := Ex.new (o := .tup []) np1
  have t1 : upd H13 p1 (.tup []) p1 = some (.tup []) := upd_same
  generalize upd H13 p1 (.tup []) = H14 at w1 t1 ⊢
  refine cons_raw (lst_raw (tn_raw ⟨by show 0 ≤ sizeLine; decide, fun p2 np2 => ?_⟩))
  have w2 := Ex.new (o := .lst []) np2
  have t2 : upd H14 p2 (.lst []) p2 = some (.lst []) := upd_same
  generalize upd H14 p2 (.lst []) = H15 at w2 t2 ⊢
  refine cons_raw (fun p3 np3 => ?_)
  have w3 := Ex.new (o := .dK []) np3
  have t3 : upd H15 p3 (.dK []) p3 = some (.dK []) := upd_same
  show tCons _ _ _ (upd H15 p3 (.dK [])) _
  generalize upd H15 p3 (.dK []) = H16 at w3 t3 ⊢
  have w13 := w1.trans (w2.trans w3)
  refine cons_raw ⟨_, rfl, cons_raw (tup_raw (cons_raw ?_))⟩
  refine (ev_ixT (v := .str n) (ev_var rfl) ev_c (st_of (w13 _ _ hav13)) rfl) H16 (Ex.refl H16) _ fun H17 w4 => tn_raw ⟨by show 1 ≤ sizeLine; decide, fun p4 np4 => ?_⟩
  have w5 := Ex.new (o := .tup [.str n]) np4
  have t4 : upd H17 p4 (.tup [.str n]) p4 = some (.tup [.str n]) := upd_same
  generalize upd H17 p4 (.tup [.str n]) = H18 at w5 t4 ⊢
  have w15 := w13.trans (w4.trans w5)
  refine cons_raw (lst_raw (cons_raw ?_))
  refine (ev_ixT (v := .str n) (ev_var rfl) ev_c (st_of (w15 _ _ hav13)) rfl) H18 (Ex.refl H18) _ fun H19 w6 => tn_raw ⟨by show 1 ≤ sizeLine; decide, fun p5 np5 => ?_⟩
  have w7 := Ex.new (o := .lst [.str n]) np5
  have t5 : upd H19 p5 (.lst [.str n]) p5 = some (.lst [.str n]) := upd_same
  generalize upd H19 p5 (.lst [.str n]) = H20 at w7 t5 ⊢
  have w17 := w15.trans (w6.trans w7)
  refine cons_raw ⟨5, rfl, cons_raw (tup_raw (cons_raw (tc_raw (tn_raw ⟨by show 1 ≤ sizeLine; decide, fun p6 np6 => tn_raw ⟨by show 15 ≤ sizeLine; decide, fun l nl => ?_⟩⟩))))⟩
  have w8 := Ex.new (o := .tup [.str "a"]) np6
  have t6 : upd H20 p6 (.tup [.str "a"]) p6 = some (.tup [.str "a"]) := upd_same
  have nl' : upd H20 p6 (.tup [.str "a"]) l = none := nl
  generalize upd H20 p6 (.tup [.str "a"]) = H21 at w8 t6 nl' ⊢
  obtain ⟨vals, hvals⟩ : ∃ vals : List V, vals = [.non, .int 0, .bl true, .str "", .str "A", .str "zzzzzzzzz", .str "no", .ref p1, .ref p2, .ref p3, .ref av, .ref p4, .ref p5, .int (-5), .ref p6] := ⟨_, rfl⟩
  have w9 := Ex.new (o := .lst vals) nl'
  have t9 : upd H21 l (.lst vals) l = some (.lst vals) := upd_same
  have e1 := hvals
  show tSeq _ _ _ _ (upd H21 l (.lst [.non, .int 0, .bl true, .str "", .str "A", .str "zzzzzzzzz", .str "no", .ref p1, .ref p2, .ref p3, .ref av, .ref p4, .ref p5, .int (-5), .ref p6]))
  rw [← hvals]
  generalize upd H21 l (.lst vals) = H22 at w9 t9 ⊢
  have w19 := w17.trans (w8.trans w9)
  have vl : vals.length = 15 := by rw [hvals]; rfl
  have th : ∀ v ∈ vals, TH K H22 (Tr.grp n b ms).nms v := by
    have f1 := (w2.trans (w3.trans (w4.trans (w5.trans (w6.trans (w7.trans (w8.trans w9))))))) _ _ t1
    have f2 := (w3.trans (w4.trans (w5.trans (w6.trans (w7.trans (w8.trans w9)))))) _ _ t2
    have f3 := (w4.trans (w5.trans (w6.trans (w7.trans (w8.trans w9))))) _ _ t3
    have f4 := (w6.trans (w7.trans (w8.trans w9))) _ _ t4
    have f5 := (w8.trans w9) _ _ t5
    have f6 := w9 _ _ t6
    have tv22 := trv_tk (TK.ex w19) _ _ tv13
    have nn := tnm n (by simp only [Tr.nms]; exact List.mem_cons_self)
    have n8 := nn.2.1
    have na : asc n := fun c hc => by
      have := nn.2.2 c hc
      omega
    have nlen : ∀ {z : Str}, z.length ≠ 1 → z ∉ (Tr.grp n b ms).nms := fun h m => h (tln _ m)
    intro v hv
    rw [hvals] at hv
    simp only [List.mem_cons, List.not_mem_nil, or_false] at hv
    have sone : ∀ {d : PyData}, okD 100 d → NL.wt d ≤ 1000 → d.depth ≤ 2 → showsY d := fun o w' dd => shows_of (B := 100) (W := 1000) (D := 2) (by decide) o w' dd (by decide) (by decide)
    have nlay : PyData.canLay0 (.str n) = true := by simp only [PyData.canLay0]; exact nl_strOk nn
    rcases hv with rfl | rfl | rfl | rfl | rfl | rfl | rfl | rfl | rfl | rfl | rfl | rfl | rfl | rfl | rfl
    · exact th_of .non (sone trivial (by decide) (by decide)) (fun z h => by cases h) .non (by decide) fun z => rfl
    · exact th_of (.int 0) (sone (by simp [okD]) (by decide) (by decide)) (fun z h => by cases h) (.int 0) (by decide) fun z => rfl
    · exact th_of (.bl true) (sone trivial (by decide) (by decide)) (fun z h => by cases h) (.bl true) (by decide) fun z => rfl
    · exact th_str (asc_lit (by decide)) (by decide +kernel) (nlen (by decide +kernel)) (by decide +kernel)
    · refine th_str (asc_lit (by decide)) (by decide +kernel) (fun m => ?_) (by decide +kernel)
      have := (tnm _ m).2.2 65 (by decide +kernel)
      omega
    · exact th_str (asc_lit (by decide)) (by decide +kernel) (nlen (by decide +kernel)) (by decide +kernel)
    · exact th_str (asc_lit (by decide)) (by decide +kernel) (nlen (by decide +kernel)) (by decide +kernel)
    · exact th_of (.tup (st_of f1) .nil) (sone trivial (by decide) (by decide)) (fun z h => by cases h) (.tup (st_of f1) .nil) (by decide) fun z => rfl
    · exact th_of (.lst f2 .nil) (sone trivial (by decide) (by decide)) (fun z h => by cases h) (.lst (sq_of f2) .nil) (by decide) fun z => rfl
    · exact ⟨.dict [], .dct f3, sone trivial (by decide) (by decide), (fun z h => by cases h), Or.inr ⟨p3, [], rfl, f3⟩⟩
    · obtain ⟨g1, g2, _, _, _⟩ := dat_facts (Tr.grp n b ms) tnm ok6
      exact th_of (trv_dy _ _ tv22) sh (fun z h => by simp only [Tr.dat] at h; cases h) (trv_dp _ _ tv22) (by unfold SeqAt.shaped; rw [Bool.and_eq_true]; exact ⟨g1, decide_eq_true (by omega)⟩) fun z => by simp only [Tr.dat]; rfl
    · exact th_of (.tup (st_of f4) (.cons (.str n) .nil)) (sone ⟨na, trivial⟩ (by simp only [NL.wt, NL.wts]; omega) (by simp [PyData.depth, PyData.depthAll])) (fun z h => by cases h) (.tup (st_of f4) (.cons (.str n) .nil)) (by unfold SeqAt.shaped; rw [Bool.and_eq_true]; exact ⟨by simp [PyData.canLay0, PyData.canLayAll0] at nlay ⊢; exact nlay, decide_eq_true (by simp [PyData.depth, PyData.depthAll])⟩) fun z => rfl
    · exact th_of (.lst f5 (.cons (.str n) .nil)) (sone ⟨na, trivial⟩ (by simp only [NL.wt, NL.wts]; omega) (by simp [PyData.depth, PyData.depthAll])) (fun z h => by cases h) (.lst (sq_of f5) (.cons (.str n) .nil)) (by unfold SeqAt.shaped; rw [Bool.and_eq_true]; exact ⟨by simp [PyData.canLay0, PyData.canLayAll0] at nlay ⊢; exact nlay, decide_eq_true (by simp [PyData.depth, PyData.depthAll])⟩) fun z => rfl
    · exact th_of (.int (-5)) (sone (by simp [okD]) (by decide) (by decide)) (fun z h => by cases h) (.int (-5)) (by decide) fun z => rfl
    · exact th_of (.tup (st_of f6) (.cons (.str "a") .nil)) (sone ⟨asc_lit (by decide), trivial⟩ (by decide +kernel) (by decide +kernel)) (fun z h => by cases h) (.tup (st_of f6) (.cons (.str "a") .nil)) (by decide +kernel) fun z => rfl
  have e122 := e113.trans w19
  have e622 := e613.trans w19
  clear w1 w2 w3 w4 w5 w6 w7 w8 w9 t1 t2 t3 t4 t5 t6 hvals w13 w15 w17 nl nl' np1 np2 np3 np4 np5 np6 e1
  -- those that are no hands
  refine q_asgP ?_
  refine ⟨_, rfl, l, rfl, ⟨_, sq_of t9⟩, fun D2 hD2 => ?_⟩
  refine lc_list (K := K) (a := l) (xs := vals) (fun j H' => Ex H22 H' ∧ H' D2 = some (.lst (vals.take j))) ⟨Ex.new hD2, by rw [upd_same]; rfl⟩ (fun j H' _ hP => sq_of (hP.1 _ _ t9)) ?_ ?_
  · rintro j x H23 hx ⟨e23, hacc⟩
    have hj := (List.getElem?_eq_some_iff.mp hx).1
    have tx := (th x (List.mem_of_getElem? hx)).ex e23
    refine ⟨rfl, tst_raw (op_raw ⟨_, rfl, call_raw (cons_raw ⟨_, rfl, tn_raw ?_⟩)⟩)⟩
    refine ⟨.ref av, n, b, ms, rfl, trv_tk (TK.ex (e622.trans e23)) _ _ tv6, by omega, by omega, fun r4 H24 e24 h24 => ?_⟩
    refine tx.notIn e24 h24 (fun y hy => nms_sub y (hd_nms ms y hy)) (fun y hy => tnm y (nms_sub y (hd_nms ms y hy))) ?_
    refine ⟨_, rfl, iteT' rfl ⟨_, rfl, _, e24 _ _ hacc, sz_lt (by rw [List.length_take]; omega), Ex.mut (e23.trans e24) hD2, ?_⟩⟩
    rw [upd_same, List.take_succ_eq_append_getElem hj, (List.getElem?_eq_some_iff.mp hx).2]
  rintro H23 ⟨e23, hacc⟩
  rw [List.take_length] at hacc
  have e623 := e622.trans e23
  have lc := el_lcL (K := K) (σ := [some (.ref a), some (.int (k : Int)), some (.ref h), some (.bl ev), some (.ref av), some (.str (Tr.grp n b ms).dat.shown), some (.ref D), c7, some (.ref D2), c9, none, none]) (H := H23) (a := D2) (xs := vals) (tl := tVar 8) (t := tYes) (te := tCall (spRef K) [] E0 (tCons (tVar 4) (tCons (tVar 10) tNil))) (j := 10) (vs := [10]) (fun _ => true) (fun _ => V.bl true) (ev_var rfl) (sq_of hacc) (by omega) (fun x => rfl) (fun _ _ _ _ _ => et_yes) (fun j x H24 e24 hx _ => ?_)
  · rw [given_all, vl] at lc
    have e0 : (List.range 15).map (fun _ => V.bl true) = ((List.range 15).map fun _ => true).map V.bl := by
      rw [List.map_map]
      rfl
    rw [e0] at lc
    refine s_when (b := false) (et_is (et_not (et_B (ev_allN lc))) ?_) (fun hb => by cases hb) (fun _ H24 e24 => ?_)
    · rfl
    have w := w19.trans (e23.trans e24)
    exact ⟨e122.trans (e23.trans e24), A13.ex w, w _ _ hp13, _, _, _, _, _, _, _, rfl⟩
  · obtain ⟨dd, h1, h2, h3, _⟩ := (th x (List.mem_of_getElem? hx)).ex (e23.trans e24)
    exact ev_call (ea_cons (ev_var rfl) (ea_cons (ev_var rfl) ea_nil)) fun H25 e25 Q' q' E' => ⟨.ref av, x, n, b, ms, dd, rfl, trv_tk (TK.ex (e623.trans (e24.trans e25))) _ _ tv6, ok6, by omega, by omega, tnd, dy_mono e25 h1, h2, h3, y1.ex (e122.trans (e23.trans (e24.trans e25))), q'⟩
end
theorem all_mk {l : PySem.W.OpenLaw} {w : World} {K : PySem.W.Frag} {h : Heap} {mg : Str → Option Value} {fa f0 f1 f2 f3 f4 f5 f6 f7 f8 f9 f10 f11 f12 f13 f14 f15 f16 f17 f18 f19 f20 : Addr} {C_LockError : Addr} {C_NoName : Addr} {C_NoText : Addr} {C_NoPlan : Addr} {C_NoBook : Addr} {C_NoScript : Addr} {C_NoBounds : Addr} {C_NotWaiting : Addr} {C_Uneven : Addr} {C_NoStep : Addr} {C_TooMany : Addr} {C_Endless : Addr} {C_NoLine : Addr} {C_NoHouse : Addr} (X : K.In h) (G : h.Ns mainGlobals mg) (hfa : mg "law" = some (.ref fa))
    {od0 an0 od1 an1 od2 an2 od3 an3 od4 an4 od5 an5 od6 an6 od7 an7 od8 an8 od9 an9 od10 an10 od11 an11 od12 an12 od13 an13 od14 an14 od15 an15 od16 an16 od17 an17 od18 an18 od19 an19 od20 an20 : Option Addr} {sl0 sl1 sl2 sl3 sl4 sl5 sl6 sl7 sl8 sl9 sl10 sl11 sl12 sl13 sl14 sl15 sl16 sl17 sl18 sl19 sl20 : Array (Option Value)} {oc0 kV0 dc0 pm0 cd0 ct0 oc1 kV1 dc1 pm1 cd1 ct1 oc2 kV2 dc2 pm2 cd2 ct2 oc3 kV3 dc3 pm3 cd3 ct3 oc4 kV4 dc4 pm4 cd4 ct4 oc5 kV5 dc5 pm5 cd5 ct5 oc6 kV6 dc6 pm6 cd6 ct6 oc7 kV7 dc7 pm7 cd7 ct7 oc8 kV8 dc8 pm8 cd8 ct8 oc9 kV9 dc9 pm9 cd9 ct9 oc10 kV10 dc10 pm10 cd10 ct10 oc11 kV11 dc11 pm11 cd11 ct11 oc12 kV12 dc12 pm12 cd12 ct12 oc13 kV13 dc13 pm13 cd13 ct13 oc14 kV14 dc14 pm14 cd14 ct14 oc15 kV15 dc15 pm15 cd15 ct15 oc16 kV16 dc16 pm16 cd16 ct16 oc17 kV17 dc17 pm17 cd17 ct17 oc18 kV18 dc18 pm18 cd18 ct18 oc19 kV19 dc19 pm19 cd19 ct19 oc20 kV20 dc20 pm20 cd20 ct20 : Value}
    (aC_LockError : PySem.W.nsIn K mainGlobals "LockError" = some (some (.ref C_LockError))) (hg_LockError : PySem.W.findIn K (.ref C_LockError) "__getattribute__" = some (some (.builtin "BaseException.__getattribute__"))) (hk_LockError : PySem.W.findIn K (.ref C_LockError) "__getattr__" = some none) (hs_LockError : PySem.W.subIn K (.ref C_LockError) (.type "BaseException") = some true) (hd_LockError : PySem.W.hasDictIn K C_LockError = true) (ha_LockError : PySem.W.findIn K (.ref C_LockError) "__class__" = some (some (.builtin "object.__class__"))) (hn_LockError : PySem.W.specialIn K (.builtin "object.__class__") "__get__" = some (some (.builtin "getset_descriptor.__get__"))) (ht_LockError : PySem.W.takesIn K (.builtin "object.__class__") = some true) (hm_LockError : PySem.W.mroIn K C_LockError (.type "object") = some true) (kC_LockError : PySem.W.keepIn K (.ref C_LockError) = true) (tyC_LockError : PySem.W.typeIn K (.ref C_LockError) = some (.type "type")) (xp_LockError : PySem.W.excIn K C_LockError [.type "ValueError", .type "Exception", .type "BaseException", .type "object"] "ValueError.__new__" = true)
    {nm_NoName qn_NoName : Str} {N_NoName : Addr} {bs_NoName bm_NoName : List Value} {sn_NoName : List Str} {sub_NoName : List Value} {ab_NoName : Bool} {col_NoName : Option Bool} {dd_NoName : Option Addr} {k0_NoName k1_NoName k2_NoName k3_NoName k5_NoName : Option Value}
    (aC_NoName : PySem.W.nsIn K mainGlobals "NoName" = some (some (.ref C_NoName))) (hg_NoName : PySem.W.findIn K (.ref C_NoName) "__getattribute__" = some (some (.builtin "BaseException.__getattribute__"))) (hk_NoName : PySem.W.findIn K (.ref C_NoName) "__getattr__" = some none) (hs_NoName : PySem.W.subIn K (.ref C_NoName) (.type "BaseException") = some true) (hd_NoName : PySem.W.hasDictIn K C_NoName = true) (ha_NoName : PySem.W.findIn K (.ref C_NoName) "__class__" = some (some (.builtin "object.__class__"))) (hn_NoName : PySem.W.specialIn K (.builtin "object.__class__") "__get__" = some (some (.builtin "getset_descriptor.__get__"))) (ht_NoName : PySem.W.takesIn K (.builtin "object.__class__") = some true) (hm_NoName : PySem.W.mroIn K C_NoName (.type "object") = some true) (kC_NoName : PySem.W.keepIn K (.ref C_NoName) = true) (tyC_NoName : PySem.W.typeIn K (.ref C_NoName) = some (.type "type")) (lx_NoName : K.lookup C_NoName = some (excClassObj nm_NoName qn_NoName C_NoName N_NoName bs_NoName bm_NoName true sn_NoName sub_NoName ab_NoName col_NoName dd_NoName k0_NoName k1_NoName k2_NoName k3_NoName k5_NoName "ValueError.__new__")) (rv_NoName : PySem.HandSPX.refsVE bm_NoName = true) (sa_NoName : PySem.W.findIn K (.ref C_NoName) "__setattr__" = some (some (.builtin "object.__setattr__"))) (ii_NoName : PySem.W.findIn K (.ref C_NoName) "__init__" = some (some (.ref f20))) (ti_NoName : PySem.W.typeIn K (.ref f20) = some (.type "function")) (na_NoName : PySem.W.findIn K (.ref C_NoName) "name" = some none)
    (aC_NoText : PySem.W.nsIn K mainGlobals "NoText" = some (some (.ref C_NoText))) (hg_NoText : PySem.W.findIn K (.ref C_NoText) "__getattribute__" = some (some (.builtin "BaseException.__getattribute__"))) (hk_NoText : PySem.W.findIn K (.ref C_NoText) "__getattr__" = some none) (hs_NoText : PySem.W.subIn K (.ref C_NoText) (.type "BaseException") = some true) (hd_NoText : PySem.W.hasDictIn K C_NoText = true) (ha_NoText : PySem.W.findIn K (.ref C_NoText) "__class__" = some (some (.builtin "object.__class__"))) (hn_NoText : PySem.W.specialIn K (.builtin "object.__class__") "__get__" = some (some (.builtin "getset_descriptor.__get__"))) (ht_NoText : PySem.W.takesIn K (.builtin "object.__class__") = some true) (hm_NoText : PySem.W.mroIn K C_NoText (.type "object") = some true) (kC_NoText : PySem.W.keepIn K (.ref C_NoText) = true) (tyC_NoText : PySem.W.typeIn K (.ref C_NoText) = some (.type "type"))
    (aC_NoPlan : PySem.W.nsIn K mainGlobals "NoPlan" = some (some (.ref C_NoPlan))) (hg_NoPlan : PySem.W.findIn K (.ref C_NoPlan) "__getattribute__" = some (some (.builtin "BaseException.__getattribute__"))) (hk_NoPlan : PySem.W.findIn K (.ref C_NoPlan) "__getattr__" = some none) (hs_NoPlan : PySem.W.subIn K (.ref C_NoPlan) (.type "BaseException") = some true) (hd_NoPlan : PySem.W.hasDictIn K C_NoPlan = true) (ha_NoPlan : PySem.W.findIn K (.ref C_NoPlan) "__class__" = some (some (.builtin "object.__class__"))) (hn_NoPlan : PySem.W.specialIn K (.builtin "object.__class__") "__get__" = some (some (.builtin "getset_descriptor.__get__"))) (ht_NoPlan : PySem.W.takesIn K (.builtin "object.__class__") = some true) (hm_NoPlan : PySem.W.mroIn K C_NoPlan (.type "object") = some true) (kC_NoPlan : PySem.W.keepIn K (.ref C_NoPlan) = true) (tyC_NoPlan : PySem.W.typeIn K (.ref C_NoPlan) = some (.type "type")) (xp_NoPlan : PySem.W.excIn K C_NoPlan [.type "ValueError", .type "Exception", .type "BaseException", .type "object"] "ValueError.__new__" = true)
    (aC_NoBook : PySem.W.nsIn K mainGlobals "NoBook" = some (some (.ref C_NoBook))) (hg_NoBook : PySem.W.findIn K (.ref C_NoBook) "__getattribute__" = some (some (.builtin "BaseException.__getattribute__"))) (hk_NoBook : PySem.W.findIn K (.ref C_NoBook) "__getattr__" = some none) (hs_NoBook : PySem.W.subIn K (.ref C_NoBook) (.type "BaseException") = some true) (hd_NoBook : PySem.W.hasDictIn K C_NoBook = true) (ha_NoBook : PySem.W.findIn K (.ref C_NoBook) "__class__" = some (some (.builtin "object.__class__"))) (hn_NoBook : PySem.W.specialIn K (.builtin "object.__class__") "__get__" = some (some (.builtin "getset_descriptor.__get__"))) (ht_NoBook : PySem.W.takesIn K (.builtin "object.__class__") = some true) (hm_NoBook : PySem.W.mroIn K C_NoBook (.type "object") = some true) (kC_NoBook : PySem.W.keepIn K (.ref C_NoBook) = true) (tyC_NoBook : PySem.W.typeIn K (.ref C_NoBook) = some (.type "type")) (xp_NoBook : PySem.W.excIn K C_NoBook [.type "ValueError", .type "Exception", .type "BaseException", .type "object"] "ValueError.__new__" = true)
    (aC_NoScript : PySem.W.nsIn K mainGlobals "NoScript" = some (some (.ref C_NoScript))) (hg_NoScript : PySem.W.findIn K (.ref C_NoScript) "__getattribute__" = some (some (.builtin "BaseException.__getattribute__"))) (hk_NoScript : PySem.W.findIn K (.ref C_NoScript) "__getattr__" = some none) (hs_NoScript : PySem.W.subIn K (.ref C_NoScript) (.type "BaseException") = some true) (hd_NoScript : PySem.W.hasDictIn K C_NoScript = true) (ha_NoScript : PySem.W.findIn K (.ref C_NoScript) "__class__" = some (some (.builtin "object.__class__"))) (hn_NoScript : PySem.W.specialIn K (.builtin "object.__class__") "__get__" = some (some (.builtin "getset_descriptor.__get__"))) (ht_NoScript : PySem.W.takesIn K (.builtin "object.__class__") = some true) (hm_NoScript : PySem.W.mroIn K C_NoScript (.type "object") = some true) (kC_NoScript : PySem.W.keepIn K (.ref C_NoScript) = true) (tyC_NoScript : PySem.W.typeIn K (.ref C_NoScript) = some (.type "type")) (xp_NoScript : PySem.W.excIn K C_NoScript [.type "ValueError", .type "Exception", .type "BaseException", .type "object"] "ValueError.__new__" = true)
    (aC_NoBounds : PySem.W.nsIn K mainGlobals "NoBounds" = some (some (.ref C_NoBounds))) (hg_NoBounds : PySem.W.findIn K (.ref C_NoBounds) "__getattribute__" = some (some (.builtin "BaseException.__getattribute__"))) (hk_NoBounds : PySem.W.findIn K (.ref C_NoBounds) "__getattr__" = some none) (hs_NoBounds : PySem.W.subIn K (.ref C_NoBounds) (.type "BaseException") = some true) (hd_NoBounds : PySem.W.hasDictIn K C_NoBounds = true) (ha_NoBounds : PySem.W.findIn K (.ref C_NoBounds) "__class__" = some (some (.builtin "object.__class__"))) (hn_NoBounds : PySem.W.specialIn K (.builtin "object.__class__") "__get__" = some (some (.builtin "getset_descriptor.__get__"))) (ht_NoBounds : PySem.W.takesIn K (.builtin "object.__class__") = some true) (hm_NoBounds : PySem.W.mroIn K C_NoBounds (.type "object") = some true) (kC_NoBounds : PySem.W.keepIn K (.ref C_NoBounds) = true) (tyC_NoBounds : PySem.W.typeIn K (.ref C_NoBounds) = some (.type "type")) (xp_NoBounds : PySem.W.excIn K C_NoBounds [.type "ValueError", .type "Exception", .type "BaseException", .type "object"] "ValueError.__new__" = true)
    (aC_NotWaiting : PySem.W.nsIn K mainGlobals "NotWaiting" = some (some (.ref C_NotWaiting))) (hg_NotWaiting : PySem.W.findIn K (.ref C_NotWaiting) "__getattribute__" = some (some (.builtin "BaseException.__getattribute__"))) (hk_NotWaiting : PySem.W.findIn K (.ref C_NotWaiting) "__getattr__" = some none) (hs_NotWaiting : PySem.W.subIn K (.ref C_NotWaiting) (.type "BaseException") = some true) (hd_NotWaiting : PySem.W.hasDictIn K C_NotWaiting = true) (ha_NotWaiting : PySem.W.findIn K (.ref C_NotWaiting) "__class__" = some (some (.builtin "object.__class__"))) (hn_NotWaiting : PySem.W.specialIn K (.builtin "object.__class__") "__get__" = some (some (.builtin "getset_descriptor.__get__"))) (ht_NotWaiting : PySem.W.takesIn K (.builtin "object.__class__") = some true) (hm_NotWaiting : PySem.W.mroIn K C_NotWaiting (.type "object") = some true) (kC_NotWaiting : PySem.W.keepIn K (.ref C_NotWaiting) = true) (tyC_NotWaiting : PySem.W.typeIn K (.ref C_NotWaiting) = some (.type "type")) (xp_NotWaiting : PySem.W.excIn K C_NotWaiting [.type "ValueError", .type "Exception", .type "BaseException", .type "object"] "ValueError.__new__" = true)
    (aC_Uneven : PySem.W.nsIn K mainGlobals "Uneven" = some (some (.ref C_Uneven))) (hg_Uneven : PySem.W.findIn K (.ref C_Uneven) "__getattribute__" = some (some (.builtin "BaseException.__getattribute__"))) (hk_Uneven : PySem.W.findIn K (.ref C_Uneven) "__getattr__" = some none) (hs_Uneven : PySem.W.subIn K (.ref C_Uneven) (.type "BaseException") = some true) (hd_Uneven : PySem.W.hasDictIn K C_Uneven = true) (ha_Uneven : PySem.W.findIn K (.ref C_Uneven) "__class__" = some (some (.builtin "object.__class__"))) (hn_Uneven : PySem.W.specialIn K (.builtin "object.__class__") "__get__" = some (some (.builtin "getset_descriptor.__get__"))) (ht_Uneven : PySem.W.takesIn K (.builtin "object.__class__") = some true) (hm_Uneven : PySem.W.mroIn K C_Uneven (.type "object") = some true) (kC_Uneven : PySem.W.keepIn K (.ref C_Uneven) = true) (tyC_Uneven : PySem.W.typeIn K (.ref C_Uneven) = some (.type "type")) (xp_Uneven : PySem.W.excIn K C_Uneven [.type "ValueError", .type "Exception", .type "BaseException", .type "object"] "ValueError.__new__" = true)
    (aC_NoStep : PySem.W.nsIn K mainGlobals "NoStep" = some (some (.ref C_NoStep))) (hg_NoStep : PySem.W.findIn K (.ref C_NoStep) "__getattribute__" = some (some (.builtin "BaseException.__getattribute__"))) (hk_NoStep : PySem.W.findIn K (.ref C_NoStep) "__getattr__" = some none) (hs_NoStep : PySem.W.subIn K (.ref C_NoStep) (.type "BaseException") = some true) (hd_NoStep : PySem.W.hasDictIn K C_NoStep = true) (ha_NoStep : PySem.W.findIn K (.ref C_NoStep) "__class__" = some (some (.builtin "object.__class__"))) (hn_NoStep : PySem.W.specialIn K (.builtin "object.__class__") "__get__" = some (some (.builtin "getset_descriptor.__get__"))) (ht_NoStep : PySem.W.takesIn K (.builtin "object.__class__") = some true) (hm_NoStep : PySem.W.mroIn K C_NoStep (.type "object") = some true) (kC_NoStep : PySem.W.keepIn K (.ref C_NoStep) = true) (tyC_NoStep : PySem.W.typeIn K (.ref C_NoStep) = some (.type "type")) (xp_NoStep : PySem.W.excIn K C_NoStep [.type "ValueError", .type "Exception", .type "BaseException", .type "object"] "ValueError.__new__" = true)
    (aC_TooMany : PySem.W.nsIn K mainGlobals "TooMany" = some (some (.ref C_TooMany))) (hg_TooMany : PySem.W.findIn K (.ref C_TooMany) "__getattribute__" = some (some (.builtin "BaseException.__getattribute__"))) (hk_TooMany : PySem.W.findIn K (.ref C_TooMany) "__getattr__" = some none) (hs_TooMany : PySem.W.subIn K (.ref C_TooMany) (.type "BaseException") = some true) (hd_TooMany : PySem.W.hasDictIn K C_TooMany = true) (ha_TooMany : PySem.W.findIn K (.ref C_TooMany) "__class__" = some (some (.builtin "object.__class__"))) (hn_TooMany : PySem.W.specialIn K (.builtin "object.__class__") "__get__" = some (some (.builtin "getset_descriptor.__get__"))) (ht_TooMany : PySem.W.takesIn K (.builtin "object.__class__") = some true) (hm_TooMany : PySem.W.mroIn K C_TooMany (.type "object") = some true) (kC_TooMany : PySem.W.keepIn K (.ref C_TooMany) = true) (tyC_TooMany : PySem.W.typeIn K (.ref C_TooMany) = some (.type "type")) (xp_TooMany : PySem.W.excIn K C_TooMany [.type "ValueError", .type "Exception", .type "BaseException", .type "object"] "ValueError.__new__" = true)
    (aC_Endless : PySem.W.nsIn K mainGlobals "Endless" = some (some (.ref C_Endless))) (hg_Endless : PySem.W.findIn K (.ref C_Endless) "__getattribute__" = some (some (.builtin "BaseException.__getattribute__"))) (hk_Endless : PySem.W.findIn K (.ref C_Endless) "__getattr__" = some none) (hs_Endless : PySem.W.subIn K (.ref C_Endless) (.type "BaseException") = some true) (hd_Endless : PySem.W.hasDictIn K C_Endless = true) (ha_Endless : PySem.W.findIn K (.ref C_Endless) "__class__" = some (some (.builtin "object.__class__"))) (hn_Endless : PySem.W.specialIn K (.builtin "object.__class__") "__get__" = some (some (.builtin "getset_descriptor.__get__"))) (ht_Endless : PySem.W.takesIn K (.builtin "object.__class__") = some true) (hm_Endless : PySem.W.mroIn K C_Endless (.type "object") = some true) (kC_Endless : PySem.W.keepIn K (.ref C_Endless) = true) (tyC_Endless : PySem.W.typeIn K (.ref C_Endless) = some (.type "type")) (xp_Endless : PySem.W.excIn K C_Endless [.type "ValueError", .type "Exception", .type "BaseException", .type "object"] "ValueError.__new__" = true)
    (aC_NoLine : PySem.W.nsIn K mainGlobals "NoLine" = some (some (.ref C_NoLine))) (hg_NoLine : PySem.W.findIn K (.ref C_NoLine) "__getattribute__" = some (some (.builtin "BaseException.__getattribute__"))) (hk_NoLine : PySem.W.findIn K (.ref C_NoLine) "__getattr__" = some none) (hs_NoLine : PySem.W.subIn K (.ref C_NoLine) (.type "BaseException") = some true) (hd_NoLine : PySem.W.hasDictIn K C_NoLine = true) (ha_NoLine : PySem.W.findIn K (.ref C_NoLine) "__class__" = some (some (.builtin "object.__class__"))) (hn_NoLine : PySem.W.specialIn K (.builtin "object.__class__") "__get__" = some (some (.builtin "getset_descriptor.__get__"))) (ht_NoLine : PySem.W.takesIn K (.builtin "object.__class__") = some true) (hm_NoLine : PySem.W.mroIn K C_NoLine (.type "object") = some true) (kC_NoLine : PySem.W.keepIn K (.ref C_NoLine) = true) (tyC_NoLine : PySem.W.typeIn K (.ref C_NoLine) = some (.type "type")) (xp_NoLine : PySem.W.excIn K C_NoLine [.type "ValueError", .type "Exception", .type "BaseException", .type "object"] "ValueError.__new__" = true)
    (aC_NoHouse : PySem.W.nsIn K mainGlobals "NoHouse" = some (some (.ref C_NoHouse))) (hg_NoHouse : PySem.W.findIn K (.ref C_NoHouse) "__getattribute__" = some (some (.builtin "BaseException.__getattribute__"))) (hk_NoHouse : PySem.W.findIn K (.ref C_NoHouse) "__getattr__" = some none) (hs_NoHouse : PySem.W.subIn K (.ref C_NoHouse) (.type "BaseException") = some true) (hd_NoHouse : PySem.W.hasDictIn K C_NoHouse = true) (ha_NoHouse : PySem.W.findIn K (.ref C_NoHouse) "__class__" = some (some (.builtin "object.__class__"))) (hn_NoHouse : PySem.W.specialIn K (.builtin "object.__class__") "__get__" = some (some (.builtin "getset_descriptor.__get__"))) (ht_NoHouse : PySem.W.takesIn K (.builtin "object.__class__") = some true) (hm_NoHouse : PySem.W.mroIn K C_NoHouse (.type "object") = some true) (kC_NoHouse : PySem.W.keepIn K (.ref C_NoHouse) = true) (tyC_NoHouse : PySem.W.typeIn K (.ref C_NoHouse) = some (.type "type")) (xp_NoHouse : PySem.W.excIn K C_NoHouse [.type "ValueError", .type "Exception", .type "BaseException", .type "object"] "ValueError.__new__" = true)
    (sb_NoName_LockError : PySem.W.subIn K (.ref C_NoName) (.ref C_LockError) = some true)
    (sb_NoName_NoName : PySem.W.subIn K (.ref C_NoName) (.ref C_NoName) = some true)
    (sb_NoName_Endless : PySem.W.subIn K (.ref C_NoName) (.ref C_Endless) = some false)
    (sb_NoName_NoBook : PySem.W.subIn K (.ref C_NoName) (.ref C_NoBook) = some false)
    (sb_NoName_NoBounds : PySem.W.subIn K (.ref C_NoName) (.ref C_NoBounds) = some false)
    (sb_NoName_NoHouse : PySem.W.subIn K (.ref C_NoName) (.ref C_NoHouse) = some false)
    (sb_NoName_NoLine : PySem.W.subIn K (.ref C_NoName) (.ref C_NoLine) = some false)
    (sb_NoName_NoPlan : PySem.W.subIn K (.ref C_NoName) (.ref C_NoPlan) = some false)
    (sb_NoName_NoScript : PySem.W.subIn K (.ref C_NoName) (.ref C_NoScript) = some false)
    (sb_NoName_NoStep : PySem.W.subIn K (.ref C_NoName) (.ref C_NoStep) = some false)
    (sb_NoName_NotWaiting : PySem.W.subIn K (.ref C_NoName) (.ref C_NotWaiting) = some false)
    (sb_NoName_NoText : PySem.W.subIn K (.ref C_NoName) (.ref C_NoText) = some false)
    (sb_NoName_TooMany : PySem.W.subIn K (.ref C_NoName) (.ref C_TooMany) = some false)
    (sb_NoName_Uneven : PySem.W.subIn K (.ref C_NoName) (.ref C_Uneven) = some false)
    (sb_NoName_ValueError : PySem.W.subIn K (.ref C_NoName) (.type "ValueError") = some true)
    (a0 : PySem.W.nsIn K mainGlobals "is_known" = some (some (.ref f0))) (l0 : K.lookup f0 = some ⟨oc0, od0, .func (PySem.W.fnOf "is_known" "is_known" (defArgs s_is_known) (defBody s_is_known) (defScope s_is_known) .none kV0 dc0 pm0 an0 cd0 ct0), sl0⟩) (c0 : PySem.W.codeIn K cd0 "is_known" = true) (k0 : PySem.W.keepIn K (.ref f0) = true)
    (a1 : PySem.W.nsIn K mainGlobals "hands_of" = some (some (.ref f1))) (l1 : K.lookup f1 = some ⟨oc1, od1, .func (PySem.W.fnOf "hands_of" "hands_of" (defArgs s_hands_of) (defBody s_hands_of) (defScope s_hands_of) .none kV1 dc1 pm1 an1 cd1 ct1), sl1⟩) (c1 : PySem.W.codeIn K cd1 "hands_of" = true) (k1 : PySem.W.keepIn K (.ref f1) = true)
    (a2 : PySem.W.nsIn K mainGlobals "all_in" = some (some (.ref f2))) (l2 : K.lookup f2 = some ⟨oc2, od2, .func (PySem.W.fnOf "all_in" "all_in" (defArgs s_all_in) (defBody s_all_in) (defScope s_all_in) .none kV2 dc2 pm2 an2 cd2 ct2), sl2⟩) (c2 : PySem.W.codeIn K cd2 "all_in" = true) (k2 : PySem.W.keepIn K (.ref f2) = true)
    (a3 : PySem.W.nsIn K mainGlobals "all_from" = some (some (.ref f3))) (l3 : K.lookup f3 = some ⟨oc3, od3, .func (PySem.W.fnOf "all_from" "all_from" (defArgs s_all_from) (defBody s_all_from) (defScope s_all_from) .none kV3 dc3 pm3 an3 cd3 ct3), sl3⟩) (c3 : PySem.W.codeIn K cd3 "all_from" = true) (k3 : PySem.W.keepIn K (.ref f3) = true)
    (a4 : PySem.W.nsIn K mainGlobals "turn_of" = some (some (.ref f4))) (l4 : K.lookup f4 = some ⟨oc4, od4, .func (PySem.W.fnOf "turn_of" "turn_of" (defArgs s_turn_of) (defBody s_turn_of) (defScope s_turn_of) .none kV4 dc4 pm4 an4 cd4 ct4), sl4⟩) (c4 : PySem.W.codeIn K cd4 "turn_of" = true) (k4 : PySem.W.keepIn K (.ref f4) = true)
    (a5 : PySem.W.nsIn K mainGlobals "turns_in" = some (some (.ref f5))) (l5 : K.lookup f5 = some ⟨oc5, od5, .func (PySem.W.fnOf "turns_in" "turns_in" (defArgs s_turns_in) (defBody s_turns_in) (defScope s_turns_in) .none kV5 dc5 pm5 an5 cd5 ct5), sl5⟩) (c5 : PySem.W.codeIn K cd5 "turns_in" = true) (k5 : PySem.W.keepIn K (.ref f5) = true)
    (a6 : PySem.W.nsIn K mainGlobals "member_turn" = some (some (.ref f6))) (l6 : K.lookup f6 = some ⟨oc6, od6, .func (PySem.W.fnOf "member_turn" "member_turn" (defArgs s_member_turn) (defBody s_member_turn) (defScope s_member_turn) .none kV6 dc6 pm6 an6 cd6 ct6), sl6⟩) (c6 : PySem.W.codeIn K cd6 "member_turn" = true) (k6 : PySem.W.keepIn K (.ref f6) = true)
    (a7 : PySem.W.nsIn K mainGlobals "_law_hand" = some (some (.ref f7))) (l7 : K.lookup f7 = some ⟨oc7, od7, .func (PySem.W.fnOf "_law_hand" "_law_hand" (defArgs s__law_hand) (defBody s__law_hand) (defScope s__law_hand) .none kV7 dc7 pm7 an7 cd7 ct7), sl7⟩) (c7 : PySem.W.codeIn K cd7 "_law_hand" = true) (k7 : PySem.W.keepIn K (.ref f7) = true)
    (a8 : PySem.W.nsIn K mainGlobals "_law_take" = some (some (.ref f8))) (l8 : K.lookup f8 = some ⟨oc8, od8, .func (PySem.W.fnOf "_law_take" "_law_take" (defArgs s__law_take) (defBody s__law_take) (defScope s__law_take) .none kV8 dc8 pm8 an8 cd8 ct8), sl8⟩) (c8 : PySem.W.codeIn K cd8 "_law_take" = true) (k8 : PySem.W.keepIn K (.ref f8) = true)
    (a9 : PySem.W.nsIn K mainGlobals "_law_pick" = some (some (.ref f9))) (l9 : K.lookup f9 = some ⟨oc9, od9, .func (PySem.W.fnOf "_law_pick" "_law_pick" (defArgs s__law_pick) (defBody s__law_pick) (defScope s__law_pick) .none kV9 dc9 pm9 an9 cd9 ct9), sl9⟩) (c9 : PySem.W.codeIn K cd9 "_law_pick" = true) (k9 : PySem.W.keepIn K (.ref f9) = true)
    (a10 : PySem.W.nsIn K mainGlobals "_law_name" = some (some (.ref f10))) (l10 : K.lookup f10 = some ⟨oc10, od10, .func (PySem.W.fnOf "_law_name" "_law_name" (defArgs s__law_name) (defBody s__law_name) (defScope s__law_name) .none kV10 dc10 pm10 an10 cd10 ct10), sl10⟩) (c10 : PySem.W.codeIn K cd10 "_law_name" = true) (k10 : PySem.W.keepIn K (.ref f10) = true)
    (a11 : PySem.W.nsIn K mainGlobals "_law_lot" = some (some (.ref f11))) (l11 : K.lookup f11 = some ⟨oc11, od11, .func (PySem.W.fnOf "_law_lot" "_law_lot" (defArgs s__law_lot) (defBody s__law_lot) (defScope s__law_lot) .none kV11 dc11 pm11 an11 cd11 ct11), sl11⟩) (c11 : PySem.W.codeIn K cd11 "_law_lot" = true) (k11 : PySem.W.keepIn K (.ref f11) = true)
    (a12 : PySem.W.nsIn K mainGlobals "_law_upper" = some (some (.ref f12))) (l12 : K.lookup f12 = some ⟨oc12, od12, .func (PySem.W.fnOf "_law_upper" "_law_upper" (defArgs s__law_upper) (defBody s__law_upper) (defScope s__law_upper) .none kV12 dc12 pm12 an12 cd12 ct12), sl12⟩) (c12 : PySem.W.codeIn K cd12 "_law_upper" = true) (k12 : PySem.W.keepIn K (.ref f12) = true)
    (a13 : PySem.W.nsIn K mainGlobals "_law_plan" = some (some (.ref f13))) (l13 : K.lookup f13 = some ⟨oc13, od13, .func (PySem.W.fnOf "_law_plan" "_law_plan" (defArgs s__law_plan) (defBody s__law_plan) (defScope s__law_plan) .none kV13 dc13 pm13 an13 cd13 ct13), sl13⟩) (c13 : PySem.W.codeIn K cd13 "_law_plan" = true) (k13 : PySem.W.keepIn K (.ref f13) = true)
    (a14 : PySem.W.nsIn K mainGlobals "_law_hands" = some (some (.ref f14))) (l14 : K.lookup f14 = some ⟨oc14, od14, .func (PySem.W.fnOf "_law_hands" "_law_hands" (defArgs s__law_hands) (defBody s__law_hands) (defScope s__law_hands) .none kV14 dc14 pm14 an14 cd14 ct14), sl14⟩) (c14 : PySem.W.codeIn K cd14 "_law_hands" = true) (k14 : PySem.W.keepIn K (.ref f14) = true)
    (a15 : PySem.W.nsIn K mainGlobals "_law_groups" = some (some (.ref f15))) (l15 : K.lookup f15 = some ⟨oc15, od15, .func (PySem.W.fnOf "_law_groups" "_law_groups" (defArgs s__law_groups) (defBody s__law_groups) (defScope s__law_groups) .none kV15 dc15 pm15 an15 cd15 ct15), sl15⟩) (c15 : PySem.W.codeIn K cd15 "_law_groups" = true) (k15 : PySem.W.keepIn K (.ref f15) = true)
    (a16 : PySem.W.nsIn K mainGlobals "_law_turn" = some (some (.ref f16))) (l16 : K.lookup f16 = some ⟨oc16, od16, .func (PySem.W.fnOf "_law_turn" "_law_turn" (defArgs s__law_turn) (defBody s__law_turn) (defScope s__law_turn) .none kV16 dc16 pm16 an16 cd16 ct16), sl16⟩) (c16 : PySem.W.codeIn K cd16 "_law_turn" = true) (k16 : PySem.W.keepIn K (.ref f16) = true)
    (a17 : PySem.W.nsIn K mainGlobals "_law_great" = some (some (.ref f17))) (l17 : K.lookup f17 = some ⟨oc17, od17, .func (PySem.W.fnOf "_law_great" "_law_great" (defArgs s__law_great) (defBody s__law_great) (defScope s__law_great) .none kV17 dc17 pm17 an17 cd17 ct17), sl17⟩) (c17 : PySem.W.codeIn K cd17 "_law_great" = true) (k17 : PySem.W.keepIn K (.ref f17) = true)
    (a18 : PySem.W.nsIn K mainGlobals "_law_refused" = some (some (.ref f18))) (l18 : K.lookup f18 = some ⟨oc18, od18, .func (PySem.W.fnOf "_law_refused" "_law_refused" (defArgs s__law_refused) (defBody s__law_refused) (defScope s__law_refused) .none kV18 dc18 pm18 an18 cd18 ct18), sl18⟩) (c18 : PySem.W.codeIn K cd18 "_law_refused" = true) (k18 : PySem.W.keepIn K (.ref f18) = true)
    (a19 : PySem.W.nsIn K mainGlobals "law" = some (some (.ref f19))) (l19 : K.lookup f19 = some ⟨oc19, od19, .func (PySem.W.fnOf "law" "law" (defArgs s_law) (defBody s_law) (defScope s_law) .none kV19 dc19 pm19 an19 cd19 ct19), sl19⟩) (c19 : PySem.W.codeIn K cd19 "law" = true) (k19 : PySem.W.keepIn K (.ref f19) = true)
    (l20 : K.lookup f20 = some ⟨oc20, od20, .func (PySem.W.fnOf "__init__" "NoName.__init__" (defArgs s_NoName___init__) (defBody s_NoName___init__) (defScope s_NoName___init__) .none kV20 dc20 pm20 an20 cd20 ct20), sl20⟩) (c20 : PySem.W.codeIn K cd20 "NoName.__init__" = true) (k20 : PySem.W.keepIn K (.ref f20) = true)
    (z0 : PySem.W.nsIn K mainGlobals "ValueError" = some none)
    (z1 : PySem.W.nsIn K mainGlobals "abs" = some none)
    (z2 : PySem.W.nsIn K mainGlobals "all" = some none)
    (z3 : PySem.W.nsIn K mainGlobals "int" = some none)
    (z4 : PySem.W.nsIn K mainGlobals "isinstance" = some none)
    (z5 : PySem.W.nsIn K mainGlobals "len" = some none)
    (z6 : PySem.W.nsIn K mainGlobals "max" = some none)
    (z7 : PySem.W.nsIn K mainGlobals "min" = some none)
    (z8 : PySem.W.nsIn K mainGlobals "range" = some none)
    (z9 : PySem.W.nsIn K mainGlobals "repr" = some none)
    (z10 : PySem.W.nsIn K mainGlobals "str" = some none)
    (z11 : PySem.W.nsIn K mainGlobals "tuple" = some none) :
    ∃ fd : FuncData, (∀ (s : Shared) (v : Value), BindsTo s fd ⟨[v], []⟩ [("_law_script", v)]) ∧ ∀ base : Heap, K.In base → base.Ns mainGlobals mg → FnG l.prog w K mg base 27 fa fd ["_law_script"] (spLaw K) := by
  have e := hfa.symm.trans (PySem.W.mg_of X G a19)
  cases e
  refine ⟨PySem.W.fnOf "law" "law" (defArgs s_law) (defBody s_law) (defScope s_law) .none kV19 dc19 pm19 an19 cd19 ct19, fun s v => .of_eq rfl, fun base _ _ => ?_⟩
  exact ok_law (T := {
    C_LockError := C_LockError, xc_LockError := ⟨⟨hg_LockError, hk_LockError, hs_LockError, hd_LockError, ha_LockError, hn_LockError, ht_LockError, hm_LockError⟩, kC_LockError, tyC_LockError⟩, mc_LockError := PySem.W.mg_of X G aC_LockError,
    xp_LockError := xp_LockError,
    C_NoName := C_NoName, xc_NoName := ⟨⟨hg_NoName, hk_NoName, hs_NoName, hd_NoName, ha_NoName, hn_NoName, ht_NoName, hm_NoName⟩, kC_NoName, tyC_NoName⟩, mc_NoName := PySem.W.mg_of X G aC_NoName,
    ox_NoName := ⟨⟨_, _, _, _, _, _, _, _, _, _, _, _, _, _, _, lx_NoName, rv_NoName⟩, sa_NoName, hs_NoName, tyC_NoName, kC_NoName⟩, ii_NoName := ii_NoName, ti_NoName := ti_NoName, na_NoName_name := na_NoName,
    C_NoText := C_NoText, xc_NoText := ⟨⟨hg_NoText, hk_NoText, hs_NoText, hd_NoText, ha_NoText, hn_NoText, ht_NoText, hm_NoText⟩, kC_NoText, tyC_NoText⟩, mc_NoText := PySem.W.mg_of X G aC_NoText,
    C_NoPlan := C_NoPlan, xc_NoPlan := ⟨⟨hg_NoPlan, hk_NoPlan, hs_NoPlan, hd_NoPlan, ha_NoPlan, hn_NoPlan, ht_NoPlan, hm_NoPlan⟩, kC_NoPlan, tyC_NoPlan⟩, mc_NoPlan := PySem.W.mg_of X G aC_NoPlan,
    xp_NoPlan := xp_NoPlan,
    C_NoBook := C_NoBook, xc_NoBook := ⟨⟨hg_NoBook, hk_NoBook, hs_NoBook, hd_NoBook, ha_NoBook, hn_NoBook, ht_NoBook, hm_NoBook⟩, kC_NoBook, tyC_NoBook⟩, mc_NoBook := PySem.W.mg_of X G aC_NoBook,
    xp_NoBook := xp_NoBook,
    C_NoScript := C_NoScript, xc_NoScript := ⟨⟨hg_NoScript, hk_NoScript, hs_NoScript, hd_NoScript, ha_NoScript, hn_NoScript, ht_NoScript, hm_NoScript⟩, kC_NoScript, tyC_NoScript⟩, mc_NoScript := PySem.W.mg_of X G aC_NoScript,
    xp_NoScript := xp_NoScript,
    C_NoBounds := C_NoBounds, xc_NoBounds := ⟨⟨hg_NoBounds, hk_NoBounds, hs_NoBounds, hd_NoBounds, ha_NoBounds, hn_NoBounds, ht_NoBounds, hm_NoBounds⟩, kC_NoBounds, tyC_NoBounds⟩, mc_NoBounds := PySem.W.mg_of X G aC_NoBounds,
    xp_NoBounds := xp_NoBounds,
    C_NotWaiting := C_NotWaiting, xc_NotWaiting := ⟨⟨hg_NotWaiting, hk_NotWaiting, hs_NotWaiting, hd_NotWaiting, ha_NotWaiting, hn_NotWaiting, ht_NotWaiting, hm_NotWaiting⟩, kC_NotWaiting, tyC_NotWaiting⟩, mc_NotWaiting := PySem.W.mg_of X G aC_NotWaiting,
    xp_NotWaiting := xp_NotWaiting,
    C_Uneven := C_Uneven, xc_Uneven := ⟨⟨hg_Uneven, hk_Uneven, hs_Uneven, hd_Uneven, ha_Uneven, hn_Uneven, ht_Uneven, hm_Uneven⟩, kC_Uneven, tyC_Uneven⟩, mc_Uneven := PySem.W.mg_of X G aC_Uneven,
    xp_Uneven := xp_Uneven,
    C_NoStep := C_NoStep, xc_NoStep := ⟨⟨hg_NoStep, hk_NoStep, hs_NoStep, hd_NoStep, ha_NoStep, hn_NoStep, ht_NoStep, hm_NoStep⟩, kC_NoStep, tyC_NoStep⟩, mc_NoStep := PySem.W.mg_of X G aC_NoStep,
    xp_NoStep := xp_NoStep,
    C_TooMany := C_TooMany, xc_TooMany := ⟨⟨hg_TooMany, hk_TooMany, hs_TooMany, hd_TooMany, ha_TooMany, hn_TooMany, ht_TooMany, hm_TooMany⟩, kC_TooMany, tyC_TooMany⟩, mc_TooMany := PySem.W.mg_of X G aC_TooMany,
    xp_TooMany := xp_TooMany,
    C_Endless := C_Endless, xc_Endless := ⟨⟨hg_Endless, hk_Endless, hs_Endless, hd_Endless, ha_Endless, hn_Endless, ht_Endless, hm_Endless⟩, kC_Endless, tyC_Endless⟩, mc_Endless := PySem.W.mg_of X G aC_Endless,
    xp_Endless := xp_Endless,
    C_NoLine := C_NoLine, xc_NoLine := ⟨⟨hg_NoLine, hk_NoLine, hs_NoLine, hd_NoLine, ha_NoLine, hn_NoLine, ht_NoLine, hm_NoLine⟩, kC_NoLine, tyC_NoLine⟩, mc_NoLine := PySem.W.mg_of X G aC_NoLine,
    xp_NoLine := xp_NoLine,
    C_NoHouse := C_NoHouse, xc_NoHouse := ⟨⟨hg_NoHouse, hk_NoHouse, hs_NoHouse, hd_NoHouse, ha_NoHouse, hn_NoHouse, ht_NoHouse, hm_NoHouse⟩, kC_NoHouse, tyC_NoHouse⟩, mc_NoHouse := PySem.W.mg_of X G aC_NoHouse,
    xp_NoHouse := xp_NoHouse,
    sb_NoName_LockError := sb_NoName_LockError,
    sb_NoName_NoName := sb_NoName_NoName,
    sb_NoName_Endless := sb_NoName_Endless,
    sb_NoName_NoBook := sb_NoName_NoBook,
    sb_NoName_NoBounds := sb_NoName_NoBounds,
    sb_NoName_NoHouse := sb_NoName_NoHouse,
    sb_NoName_NoLine := sb_NoName_NoLine,
    sb_NoName_NoPlan := sb_NoName_NoPlan,
    sb_NoName_NoScript := sb_NoName_NoScript,
    sb_NoName_NoStep := sb_NoName_NoStep,
    sb_NoName_NotWaiting := sb_NoName_NotWaiting,
    sb_NoName_NoText := sb_NoName_NoText,
    sb_NoName_TooMany := sb_NoName_TooMany,
    sb_NoName_Uneven := sb_NoName_Uneven,
    sb_NoName_ValueError := sb_NoName_ValueError,
    f_is_known := f0, d_is_known := _, F_is_known := fun_mk (st := s_is_known) l0 c0 k0, m_is_known := PySem.W.mg_of X G a0,
    f_hands_of := f1, d_hands_of := _, F_hands_of := fun_mk (st := s_hands_of) l1 c1 k1, m_hands_of := PySem.W.mg_of X G a1,
    f_all_in := f2, d_all_in := _, F_all_in := fun_mk (st := s_all_in) l2 c2 k2, m_all_in := PySem.W.mg_of X G a2,
    f_all_from := f3, d_all_from := _, F_all_from := fun_mk (st := s_all_from) l3 c3 k3, m_all_from := PySem.W.mg_of X G a3,
    f_turn_of := f4, d_turn_of := _, F_turn_of := fun_mk (st := s_turn_of) l4 c4 k4, m_turn_of := PySem.W.mg_of X G a4,
    f_turns_in := f5, d_turns_in := _, F_turns_in := fun_mk (st := s_turns_in) l5 c5 k5, m_turns_in := PySem.W.mg_of X G a5,
    f_member_turn := f6, d_member_turn := _, F_member_turn := fun_mk (st := s_member_turn) l6 c6 k6, m_member_turn := PySem.W.mg_of X G a6,
    f__law_hand := f7, d__law_hand := _, F__law_hand := fun_mk (st := s__law_hand) l7 c7 k7, m__law_hand := PySem.W.mg_of X G a7,
    f__law_take := f8, d__law_take := _, F__law_take := fun_mk (st := s__law_take) l8 c8 k8, m__law_take := PySem.W.mg_of X G a8,
    f__law_pick := f9, d__law_pick := _, F__law_pick := fun_mk (st := s__law_pick) l9 c9 k9, m__law_pick := PySem.W.mg_of X G a9,
    f__law_name := f10, d__law_name := _, F__law_name := fun_mk (st := s__law_name) l10 c10 k10, m__law_name := PySem.W.mg_of X G a10,
    f__law_lot := f11, d__law_lot := _, F__law_lot := fun_mk (st := s__law_lot) l11 c11 k11, m__law_lot := PySem.W.mg_of X G a11,
    f__law_upper := f12, d__law_upper := _, F__law_upper := fun_mk (st := s__law_upper) l12 c12 k12, m__law_upper := PySem.W.mg_of X G a12,
    f__law_plan := f13, d__law_plan := _, F__law_plan := fun_mk (st := s__law_plan) l13 c13 k13, m__law_plan := PySem.W.mg_of X G a13,
    f__law_hands := f14, d__law_hands := _, F__law_hands := fun_mk (st := s__law_hands) l14 c14 k14, m__law_hands := PySem.W.mg_of X G a14,
    f__law_groups := f15, d__law_groups := _, F__law_groups := fun_mk (st := s__law_groups) l15 c15 k15, m__law_groups := PySem.W.mg_of X G a15,
    f__law_turn := f16, d__law_turn := _, F__law_turn := fun_mk (st := s__law_turn) l16 c16 k16, m__law_turn := PySem.W.mg_of X G a16,
    f__law_great := f17, d__law_great := _, F__law_great := fun_mk (st := s__law_great) l17 c17 k17, m__law_great := PySem.W.mg_of X G a17,
    f__law_refused := f18, d__law_refused := _, F__law_refused := fun_mk (st := s__law_refused) l18 c18 k18, m__law_refused := PySem.W.mg_of X G a18,
    f_law := fa, d_law := _, F_law := fun_mk (st := s_law) l19 c19 k19, m_law := PySem.W.mg_of X G a19,
    f_NoName___init__ := f20, d_NoName___init__ := _, F_NoName___init__ := fun_mk (st := s_NoName___init__) l20 c20 k20,
    z_ValueError := PySem.W.mg_none_of X G z0,
    z_abs := PySem.W.mg_none_of X G z1,
    z_all := PySem.W.mg_none_of X G z2,
    z_int := PySem.W.mg_none_of X G z3,
    z_isinstance := PySem.W.mg_none_of X G z4,
    z_len := PySem.W.mg_none_of X G z5,
    z_max := PySem.W.mg_none_of X G z6,
    z_min := PySem.W.mg_none_of X G z7,
    z_range := PySem.W.mg_none_of X G z8,
    z_repr := PySem.W.mg_none_of X G z9,
    z_str := PySem.W.mg_none_of X G z10,
    z_tuple := PySem.W.mg_none_of X G z11
    })
end K53
open PySem PySem.W PyProof.Rows
set_option maxRecDepth 100000 in
set_option maxHeartbeats 0 in
theorem PySem.Challenge.cw_nearlocks_k53_turns_of_members_holds : PySem.Challenge.rw_nearlocks_k53_turns_of_members.Holds := by
  w_on; o_law; k_head; (case hw => w_witness2)
  k_fill
  refine NL.walk_y (l := PySem.Challenge.rw_nearlocks_k53_turns_of_members) (n := 63) (k := 27) (x := "_law_script") (sp := K53.spLaw) rfl (by decide) rfl (by decide +kernel) ⟨rfl, by decide, by decide⟩ (fun w h Y => PySem.W.kIn_of Y) ?F ?P
  case P =>
    intro K H a ns hl hy hS
    exact ⟨a, ns, rfl, hS, hl, hy, fun _ => rfl⟩
  case F =>
    intro w mg fa h KX G hmg
    refine' K53.all_mk KX G hmg ?aC_LockError ?hg_LockError ?hk_LockError ?hs_LockError ?hd_LockError ?ha_LockError ?hn_LockError ?ht_LockError ?hm_LockError ?kC_LockError ?tyC_LockError ?xp_LockError ?aC_NoName ?hg_NoName ?hk_NoName ?hs_NoName ?hd_NoName ?ha_NoName ?hn_NoName ?ht_NoName ?hm_NoName ?kC_NoName ?tyC_NoName ?lx_NoName ?rv_NoName ?sa_NoName ?ii_NoName ?ti_NoName ?na_NoName ?aC_NoText ?hg_NoText ?hk_NoText ?hs_NoText ?hd_NoText ?ha_NoText ?hn_NoText ?ht_NoText ?hm_NoText ?kC_NoText ?tyC_NoText ?aC_NoPlan ?hg_NoPlan ?hk_NoPlan ?hs_NoPlan ?hd_NoPlan ?ha_NoPlan ?hn_NoPlan ?ht_NoPlan ?hm_NoPlan ?kC_NoPlan ?tyC_NoPlan ?xp_NoPlan ?aC_NoBook ?hg_NoBook ?hk_NoBook ?hs_NoBook ?hd_NoBook ?ha_NoBook ?hn_NoBook ?ht_NoBook ?hm_NoBook ?kC_NoBook ?tyC_NoBook ?xp_NoBook ?aC_NoScript ?hg_NoScript ?hk_NoScript ?hs_NoScript ?hd_NoScript ?ha_NoScript ?hn_NoScript ?ht_NoScript ?hm_NoScript ?kC_NoScript ?tyC_NoScript ?xp_NoScript ?aC_NoBounds ?hg_NoBounds ?hk_NoBounds ?hs_NoBounds ?hd_NoBounds ?ha_NoBounds ?hn_NoBounds ?ht_NoBounds ?hm_NoBounds ?kC_NoBounds ?tyC_NoBounds ?xp_NoBounds ?aC_NotWaiting ?hg_NotWaiting ?hk_NotWaiting ?hs_NotWaiting ?hd_NotWaiting ?ha_NotWaiting ?hn_NotWaiting ?ht_NotWaiting ?hm_NotWaiting ?kC_NotWaiting ?tyC_NotWaiting ?xp_NotWaiting ?aC_Uneven ?hg_Uneven ?hk_Uneven ?hs_Uneven ?hd_Uneven ?ha_Uneven ?hn_Uneven ?ht_Uneven ?hm_Uneven ?kC_Uneven ?tyC_Uneven ?xp_Uneven ?aC_NoStep ?hg_NoStep ?hk_NoStep ?hs_NoStep ?hd_NoStep ?ha_NoStep ?hn_NoStep ?ht_NoStep ?hm_NoStep ?kC_NoStep ?tyC_NoStep ?xp_NoStep ?aC_TooMany ?hg_TooMany ?hk_TooMany ?hs_TooMany ?hd_TooMany ?ha_TooMany ?hn_TooMany ?ht_TooMany ?hm_TooMany ?kC_TooMany ?tyC_TooMany ?xp_TooMany ?aC_Endless ?hg_Endless ?hk_Endless ?hs_Endless ?hd_Endless ?ha_Endless ?hn_Endless ?ht_Endless ?hm_Endless ?kC_Endless ?tyC_Endless ?xp_Endless ?aC_NoLine ?hg_NoLine ?hk_NoLine ?hs_NoLine ?hd_NoLine ?ha_NoLine ?hn_NoLine ?ht_NoLine ?hm_NoLine ?kC_NoLine ?tyC_NoLine ?xp_NoLine ?aC_NoHouse ?hg_NoHouse ?hk_NoHouse ?hs_NoHouse ?hd_NoHouse ?ha_NoHouse ?hn_NoHouse ?ht_NoHouse ?hm_NoHouse ?kC_NoHouse ?tyC_NoHouse ?xp_NoHouse ?sb_NoName_LockError ?sb_NoName_NoName ?sb_NoName_Endless ?sb_NoName_NoBook ?sb_NoName_NoBounds ?sb_NoName_NoHouse ?sb_NoName_NoLine ?sb_NoName_NoPlan ?sb_NoName_NoScript ?sb_NoName_NoStep ?sb_NoName_NotWaiting ?sb_NoName_NoText ?sb_NoName_TooMany ?sb_NoName_Uneven ?sb_NoName_ValueError ?a0 ?l0 ?c0 ?k0 ?a1 ?l1 ?c1 ?k1 ?a2 ?l2 ?c2 ?k2 ?a3 ?l3 ?c3 ?k3 ?a4 ?l4 ?c4 ?k4 ?a5 ?l5 ?c5 ?k5 ?a6 ?l6 ?c6 ?k6 ?a7 ?l7 ?c7 ?k7 ?a8 ?l8 ?c8 ?k8 ?a9 ?l9 ?c9 ?k9 ?a10 ?l10 ?c10 ?k10 ?a11 ?l11 ?c11 ?k11 ?a12 ?l12 ?c12 ?k12 ?a13 ?l13 ?c13 ?k13 ?a14 ?l14 ?c14 ?k14 ?a15 ?l15 ?c15 ?k15 ?a16 ?l16 ?c16 ?k16 ?a17 ?l17 ?c17 ?k17 ?a18 ?l18 ?c18 ?k18 ?a19 ?l19 ?c19 ?k19 ?l20 ?c20 ?k20 ?z0 ?z1 ?z2 ?z3 ?z4 ?z5 ?z6 ?z7 ?z8 ?z9 ?z10 ?z11
    (case aC_LockError => k_is); (case hg_LockError => k_is); (case hk_LockError => k_is); (case hs_LockError => k_is); (case hd_LockError => k_is); (case ha_LockError => k_is); (case hn_LockError => k_is); (case ht_LockError => k_is); (case hm_LockError => k_is); (case kC_LockError => k_is); (case tyC_LockError => k_is); (case xp_LockError => k_exc)
    (case aC_NoName => k_is); (case hg_NoName => k_is); (case hk_NoName => k_is); (case hs_NoName => k_is); (case hd_NoName => k_is); (case ha_NoName => k_is); (case hn_NoName => k_is); (case ht_NoName => k_is); (case hm_NoName => k_is); (case kC_NoName => k_is); (case tyC_NoName => k_is); (case lx_NoName => k_is); (case rv_NoName => decide +kernel); (case sa_NoName => k_is); (case ii_NoName => k_is); (case ti_NoName => k_is); (case na_NoName => k_is)
    (case aC_NoText => k_is); (case hg_NoText => k_is); (case hk_NoText => k_is); (case hs_NoText => k_is); (case hd_NoText => k_is); (case ha_NoText => k_is); (case hn_NoText => k_is); (case ht_NoText => k_is); (case hm_NoText => k_is); (case kC_NoText => k_is); (case tyC_NoText => k_is)
    (case aC_NoPlan => k_is); (case hg_NoPlan => k_is); (case hk_NoPlan => k_is); (case hs_NoPlan => k_is); (case hd_NoPlan => k_is); (case ha_NoPlan => k_is); (case hn_NoPlan => k_is); (case ht_NoPlan => k_is); (case hm_NoPlan => k_is); (case kC_NoPlan => k_is); (case tyC_NoPlan => k_is); (case xp_NoPlan => k_exc)
    (case aC_NoBook => k_is); (case hg_NoBook => k_is); (case hk_NoBook => k_is); (case hs_NoBook => k_is); (case hd_NoBook => k_is); (case ha_NoBook => k_is); (case hn_NoBook => k_is); (case ht_NoBook => k_is); (case hm_NoBook => k_is); (case kC_NoBook => k_is); (case tyC_NoBook => k_is); (case xp_NoBook => k_exc)
    (case aC_NoScript => k_is); (case hg_NoScript => k_is); (case hk_NoScript => k_is); (case hs_NoScript => k_is); (case hd_NoScript => k_is); (case ha_NoScript => k_is); (case hn_NoScript => k_is); (case ht_NoScript => k_is); (case hm_NoScript => k_is); (case kC_NoScript => k_is); (case tyC_NoScript => k_is); (case xp_NoScript => k_exc)
    (case aC_NoBounds => k_is); (case hg_NoBounds => k_is); (case hk_NoBounds => k_is); (case hs_NoBounds => k_is); (case hd_NoBounds => k_is); (case ha_NoBounds => k_is); (case hn_NoBounds => k_is); (case ht_NoBounds => k_is); (case hm_NoBounds => k_is); (case kC_NoBounds => k_is); (case tyC_NoBounds => k_is); (case xp_NoBounds => k_exc)
    (case aC_NotWaiting => k_is); (case hg_NotWaiting => k_is); (case hk_NotWaiting => k_is); (case hs_NotWaiting => k_is); (case hd_NotWaiting => k_is); (case ha_NotWaiting => k_is); (case hn_NotWaiting => k_is); (case ht_NotWaiting => k_is); (case hm_NotWaiting => k_is); (case kC_NotWaiting => k_is); (case tyC_NotWaiting => k_is); (case xp_NotWaiting => k_exc)
    (case aC_Uneven => k_is); (case hg_Uneven => k_is); (case hk_Uneven => k_is); (case hs_Uneven => k_is); (case hd_Uneven => k_is); (case ha_Uneven => k_is); (case hn_Uneven => k_is); (case ht_Uneven => k_is); (case hm_Uneven => k_is); (case kC_Uneven => k_is); (case tyC_Uneven => k_is); (case xp_Uneven => k_exc)
    (case aC_NoStep => k_is); (case hg_NoStep => k_is); (case hk_NoStep => k_is); (case hs_NoStep => k_is); (case hd_NoStep => k_is); (case ha_NoStep => k_is); (case hn_NoStep => k_is); (case ht_NoStep => k_is); (case hm_NoStep => k_is); (case kC_NoStep => k_is); (case tyC_NoStep => k_is); (case xp_NoStep => k_exc)
    (case aC_TooMany => k_is); (case hg_TooMany => k_is); (case hk_TooMany => k_is); (case hs_TooMany => k_is); (case hd_TooMany => k_is); (case ha_TooMany => k_is); (case hn_TooMany => k_is); (case ht_TooMany => k_is); (case hm_TooMany => k_is); (case kC_TooMany => k_is); (case tyC_TooMany => k_is); (case xp_TooMany => k_exc)
    (case aC_Endless => k_is); (case hg_Endless => k_is); (case hk_Endless => k_is); (case hs_Endless => k_is); (case hd_Endless => k_is); (case ha_Endless => k_is); (case hn_Endless => k_is); (case ht_Endless => k_is); (case hm_Endless => k_is); (case kC_Endless => k_is); (case tyC_Endless => k_is); (case xp_Endless => k_exc)
    (case aC_NoLine => k_is); (case hg_NoLine => k_is); (case hk_NoLine => k_is); (case hs_NoLine => k_is); (case hd_NoLine => k_is); (case ha_NoLine => k_is); (case hn_NoLine => k_is); (case ht_NoLine => k_is); (case hm_NoLine => k_is); (case kC_NoLine => k_is); (case tyC_NoLine => k_is); (case xp_NoLine => k_exc)
    (case aC_NoHouse => k_is); (case hg_NoHouse => k_is); (case hk_NoHouse => k_is); (case hs_NoHouse => k_is); (case hd_NoHouse => k_is); (case ha_NoHouse => k_is); (case hn_NoHouse => k_is); (case ht_NoHouse => k_is); (case hm_NoHouse => k_is); (case kC_NoHouse => k_is); (case tyC_NoHouse => k_is); (case xp_NoHouse => k_exc)
    (case sb_NoName_LockError => first | rfl | k_is)
    (case sb_NoName_NoName => first | rfl | k_is)
    (case sb_NoName_Endless => first | rfl | k_is)
    (case sb_NoName_NoBook => first | rfl | k_is)
    (case sb_NoName_NoBounds => first | rfl | k_is)
    (case sb_NoName_NoHouse => first | rfl | k_is)
    (case sb_NoName_NoLine => first | rfl | k_is)
    (case sb_NoName_NoPlan => first | rfl | k_is)
    (case sb_NoName_NoScript => first | rfl | k_is)
    (case sb_NoName_NoStep => first | rfl | k_is)
    (case sb_NoName_NotWaiting => first | rfl | k_is)
    (case sb_NoName_NoText => first | rfl | k_is)
    (case sb_NoName_TooMany => first | rfl | k_is)
    (case sb_NoName_Uneven => first | rfl | k_is)
    (case sb_NoName_ValueError => first | rfl | k_is)
    (case a0 => k_is); (case l0 => k_is); (case c0 => k_is); (case k0 => k_is)
    (case a1 => k_is); (case l1 => k_is); (case c1 => k_is); (case k1 => k_is)
    (case a2 => k_is); (case l2 => k_is); (case c2 => k_is); (case k2 => k_is)
    (case a3 => k_is); (case l3 => k_is); (case c3 => k_is); (case k3 => k_is)
    (case a4 => k_is); (case l4 => k_is); (case c4 => k_is); (case k4 => k_is)
    (case a5 => k_is); (case l5 => k_is); (case c5 => k_is); (case k5 => k_is)
    (case a6 => k_is); (case l6 => k_is); (case c6 => k_is); (case k6 => k_is)
    (case a7 => k_is); (case l7 => k_is); (case c7 => k_is); (case k7 => k_is)
    (case a8 => k_is); (case l8 => k_is); (case c8 => k_is); (case k8 => k_is)
    (case a9 => k_is); (case l9 => k_is); (case c9 => k_is); (case k9 => k_is)
    (case a10 => k_is); (case l10 => k_is); (case c10 => k_is); (case k10 => k_is)
    (case a11 => k_is); (case l11 => k_is); (case c11 => k_is); (case k11 => k_is)
    (case a12 => k_is); (case l12 => k_is); (case c12 => k_is); (case k12 => k_is)
    (case a13 => k_is); (case l13 => k_is); (case c13 => k_is); (case k13 => k_is)
    (case a14 => k_is); (case l14 => k_is); (case c14 => k_is); (case k14 => k_is)
    (case a15 => k_is); (case l15 => k_is); (case c15 => k_is); (case k15 => k_is)
    (case a16 => k_is); (case l16 => k_is); (case c16 => k_is); (case k16 => k_is)
    (case a17 => k_is); (case l17 => k_is); (case c17 => k_is); (case k17 => k_is)
    (case a18 => k_is); (case l18 => k_is); (case c18 => k_is); (case k18 => k_is)
    (case a19 => k_is); (case l19 => k_is); (case c19 => k_is); (case k19 => k_is)
    (case l20 => k_is); (case c20 => k_is); (case k20 => k_is)
    (case z0 => k_is)
    (case z1 => k_is)
    (case z2 => k_is)
    (case z3 => k_is)
    (case z4 => k_is)
    (case z5 => k_is)
    (case z6 => k_is)
    (case z7 => k_is)
    (case z8 => k_is)
    (case z9 => k_is)
    (case z10 => k_is)
    (case z11 => k_is)
