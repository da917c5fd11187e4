import PyProof.Rows.All
import Wide.All
import OpenK.AllK
import Wide.FinOn
import HandS.ForMost
import HandS.Wide
import HandS.Deep
import HandS.Property
import HandS.Style
import HandS.Finally
import HandS.More
import HandS.Walk
import HandS.Codes
import PyProof.ReprRoads
import PyProof.ReprBulk
import HandS.Ends
import KE.KDictZip
import HandS.Iter
import HandS.Zip
import HandS.IsInst
import HandS.ForExc
import HandS.ExcInit
import HandS.ExcField
import HandS.WordsExc
import HandS.Sort
import KE.KUnpackStar
import HandS.TryOnly
import PyProof.MakeMany
import PyProof.CompFree
import HandS.Comp
import HandS.Exc
import PySem.Challenge.RW_paidinparts_k03_states_let_and_refused
set_option Elab.async false
set_option linter.all false
set_option maxRecDepth 100000
set_option maxHeartbeats 4000000
/-! The base of all our proofs: data over the abstract heap, repr, defs that ask repr, frames. -/
namespace Pz
open PySem L2
open PyProof.Rows (envOfC)
/-! ### powers of great ints -/
section
variable {X : Cx}
def CPw (i j : Int) : Prop := 0 ≤ j ∧ (Builtin.Int.intBits i : Int) * j ≤ 2 ^ 27
theorem op_powW : OpR X (binaryOp .Pow) (rI CPw fun i j => .int (i ^ j.toNat)) :=
  opI fun _ _ _ _ _ _ _ hc q => PyProof.Rows.pow_int hc.1 hc.2 q
theorem cpw_of {i j : Int} {b : Nat} (h0 : 0 ≤ j) (hj : j ≤ 8) (hb : i.natAbs < 2 ^ b) (h : b ≤ 10000000) : CPw i j := by
  refine ⟨h0, ?_⟩
  have h1 := PyProof.Rows.intBits_le hb
  have h2 : (Builtin.Int.intBits i : Int) ≤ 10000000 := by omega
  have h3 : (Builtin.Int.intBits i : Int) * j ≤ 10000000 * 8 := by
    refine Int.le_trans (Int.mul_le_mul_of_nonneg_right h2 h0) ?_
    omega
  omega
theorem hu65 {A : Around} {k : Nat} (hr : Room k A) : A.units + 65 < cLine := by have := hr.un; omega
end

/-! ### data over a heap -/
def kD : Key → PyData
  | .inl i => .int i
  | .inr x => .str x
mutual
def R (F : Hp) : PyData → V → Prop
  | .none, v => v = .non
  | .bool b, v => v = .bl b
  | .int i, v => v = .int i
  | .str s, v => v = .str s
  | .list ds, v => ∃ a xs, v = .ref a ∧ F a = some (.lst xs) ∧ RA F ds xs
  | .tuple ds, v => ∃ a xs, v = .ref a ∧ F a = some (.tup xs) ∧ RA F ds xs
  | .dict kvs, v => ∃ a es, v = .ref a ∧ F a = some (.dK es) ∧ RK F kvs es
def RA (F : Hp) : List PyData → List V → Prop
  | [], xs => xs = []
  | d :: ds, xs => ∃ x r, xs = x :: r ∧ R F d x ∧ RA F ds r
def RK (F : Hp) : List (PyData × PyData) → List (Key × V) → Prop
  | [], es => es = []
  | (k, d) :: ds, es => ∃ kk x r, es = (kk, x) :: r ∧ k = kD kk ∧ R F d x ∧ RK F ds r
end
section
variable {F F' : Hp}
mutual
theorem R.mono (e : Same F F') : ∀ (d : PyData) (v : V), R F d v → R F' d v
  | .none, v, h => by simpa only [R] using h
  | .bool b, v, h => by simpa only [R] using h
  | .int i, v, h => by simpa only [R] using h
  | .str s, v, h => by simpa only [R] using h
  | .list ds, v, h => by
    simp only [R] at h ⊢
    obtain ⟨a, xs, rfl, h1, h2⟩ := h
    exact ⟨a, xs, rfl, e _ _ h1, RA.mono e ds xs h2⟩
  | .tuple ds, v, h => by
    simp only [R] at h ⊢
    obtain ⟨a, xs, rfl, h1, h2⟩ := h
    exact ⟨a, xs, rfl, e _ _ h1, RA.mono e ds xs h2⟩
  | .dict kvs, v, h => by
    simp only [R] at h ⊢
    obtain ⟨a, xs, rfl, h1, h2⟩ := h
    exact ⟨a, xs, rfl, e _ _ h1, RK.mono e kvs xs h2⟩
theorem RA.mono (e : Same F F') : ∀ (ds : List PyData) (vs : List V), RA F ds vs → RA F' ds vs
  | [], vs, h => by simpa only [RA] using h
  | d :: ds, vs, h => by
    simp only [RA] at h ⊢
    obtain ⟨x, r, rfl, h1, h2⟩ := h
    exact ⟨x, r, rfl, R.mono e d x h1, RA.mono e ds r h2⟩
theorem RK.mono (e : Same F F') : ∀ (ds : List (PyData × PyData)) (vs : List (Key × V)), RK F ds vs → RK F' ds vs
  | [], vs, h => by simpa only [RK] using h
  | (k, d) :: ds, vs, h => by
    simp only [RK] at h ⊢
    obtain ⟨kk, x, r, rfl, hk, h1, h2⟩ := h
    exact ⟨kk, x, r, rfl, hk, R.mono e d x h1, RK.mono e ds r h2⟩
end
/-! data without dicts, as the layer's own -/
mutual
theorem R.dp {K : PySem.W.Frag} : ∀ (d : PyData) (v : V), R F d v → d.hasDict = false → Dp K F v d
  | .none, v, h, _ => by simp only [R] at h; subst h; exact .non
  | .bool b, v, h, _ => by simp only [R] at h; subst h; exact .bl b
  | .int i, v, h, _ => by simp only [R] at h; subst h; exact .int i
  | .str s, v, h, _ => by simp only [R] at h; subst h; exact .str s
  | .list ds, v, h, n => by
    simp only [R] at h
    obtain ⟨a, xs, rfl, h1, h2⟩ := h
    exact .lst (SqL.of h1) (RA.dp ds xs h2 (by simpa only [PyData.hasDict] using n))
  | .tuple ds, v, h, n => by
    simp only [R] at h
    obtain ⟨a, xs, rfl, h1, h2⟩ := h
    exact .tup (SqT.of h1) (RA.dp ds xs h2 (by simpa only [PyData.hasDict] using n))
  | .dict kvs, v, h, n => by simp only [PyData.hasDict] at n; exact absurd n (by decide)
theorem RA.dp {K : PySem.W.Frag} : ∀ (ds : List PyData) (vs : List V), RA F ds vs → PyData.hasDictAll ds = false → DpAll K F vs ds
  | [], vs, h, _ => by simp only [RA] at h; subst h; exact .nil
  | d :: ds, vs, h, n => by
    simp only [RA] at h
    simp only [PyData.hasDictAll, Bool.or_eq_false_iff] at n
    obtain ⟨x, r, rfl, h1, h2⟩ := h
    exact .cons (R.dp d x h1 n.1) (RA.dp ds r h2 n.2)
end
theorem RA.len : ∀ {ds : List PyData} {vs : List V}, RA F ds vs → vs.length = ds.length
  | [], vs, h => by simp only [RA] at h; subst h; rfl
  | d :: ds, vs, h => by
    simp only [RA] at h
    obtain ⟨x, r, rfl, _, h2⟩ := h
    simp only [List.length_cons, RA.len h2]
theorem RA.at : ∀ {ds : List PyData} {vs : List V} {i : Nat} {d : PyData}, RA F ds vs → ds[i]? = some d → ∃ x, vs[i]? = some x ∧ R F d x
  | [], vs, i, d, h, e => by simp at e
  | d :: ds, vs, i, d', h, e => by
    simp only [RA] at h
    obtain ⟨x, r, rfl, h1, h2⟩ := h
    cases i with
    | zero => simp at e; subst e; exact ⟨x, rfl, h1⟩
    | succ i => simpa using RA.at (i := i) h2 (by simpa using e)
theorem RA.at' : ∀ {ds : List PyData} {vs : List V} {i : Nat} {x : V}, RA F ds vs → vs[i]? = some x → ∃ d, ds[i]? = some d ∧ R F d x := by
  intro ds vs i x h e
  have hl := RA.len h
  have hi : i < ds.length := by
    have := (List.getElem?_eq_some_iff.mp e).1
    omega
  obtain ⟨y, h1, h2⟩ := RA.at h (List.getElem?_eq_getElem hi)
  rw [e] at h1
  cases h1
  exact ⟨_, List.getElem?_eq_getElem hi, h2⟩
theorem RA.append : ∀ {ds es : List PyData} {xs ys : List V}, RA F ds xs → RA F es ys → RA F (ds ++ es) (xs ++ ys)
  | [], es, xs, ys, h, h' => by simp only [RA] at h; subst h; simpa using h'
  | d :: ds, es, xs, ys, h, h' => by
    simp only [RA] at h
    obtain ⟨x, r, rfl, h1, h2⟩ := h
    simp only [List.cons_append, RA]
    exact ⟨x, _, rfl, h1, RA.append h2 h'⟩
theorem RA.snoc {ds : List PyData} {d : PyData} {xs : List V} {x : V} (h : RA F ds xs) (h' : R F d x) : RA F (ds ++ [d]) (xs ++ [x]) :=
  RA.append h (by simp only [RA]; exact ⟨x, [], rfl, h', rfl⟩)
theorem RA.strs : ∀ (ss : List Str), RA F (ss.map .str) (ss.map V.str)
  | [] => by simp only [List.map_nil, RA]
  | s :: ss => by simp only [List.map_cons, RA, R]; exact ⟨_, _, rfl, rfl, RA.strs ss⟩
theorem RA.ints : ∀ (ns : List Int), RA F (ns.map .int) (ns.map V.int)
  | [] => by simp only [List.map_nil, RA]
  | s :: ss => by simp only [List.map_cons, RA, R]; exact ⟨_, _, rfl, rfl, RA.ints ss⟩
theorem RA.strs_eq : ∀ {ss : List Str} {xs : List V}, RA F (ss.map .str) xs → xs = ss.map V.str
  | [], xs, h => by simpa only [List.map_nil, RA] using h
  | s :: ss, xs, h => by
    simp only [List.map_cons, RA, R] at h
    obtain ⟨x, r, rfl, rfl, h2⟩ := h
    rw [List.map_cons, RA.strs_eq h2]
theorem RA.ints_eq : ∀ {ss : List Int} {xs : List V}, RA F (ss.map .int) xs → xs = ss.map V.int
  | [], xs, h => by simpa only [List.map_nil, RA] using h
  | s :: ss, xs, h => by
    simp only [List.map_cons, RA, R] at h
    obtain ⟨x, r, rfl, rfl, h2⟩ := h
    rw [List.map_cons, RA.ints_eq h2]
end

theorem RA_of {F : Hp} : ∀ {ds : List PyData} {vs : List V}, vs.length = ds.length → (∀ (i : Nat) d x, ds[i]? = some d → vs[i]? = some x → R F d x) → RA F ds vs
  | [], vs, hl, _ => by
    cases vs with
    | nil => simp only [RA]
    | cons x r => simp at hl
  | d :: ds, vs, hl, h => by
    cases vs with
    | nil => simp at hl
    | cons x r =>
      simp only [RA]
      exact ⟨x, r, rfl, h 0 d x rfl rfl, RA_of (by simpa using hl) fun i d' x' a b => h (i + 1) d' x' (by simpa using a) (by simpa using b)⟩

/-! ### repr -/
section
variable {X : Cx} {pins : List (Addr × Obj)} {σ : St} {H F : Hp} {s : Shared}
mutual
theorem R.reads (I : Inv X pins σ H s) (e : Same F H) : ∀ (d : PyData) (v : V) (u : Value), R F d v → RelV v u → ∃ as, Reads s.heap u d as ∧ ∀ a ∈ as, H a ≠ none
  | .none, v, u, h, r => by
    simp only [R] at h; subst h; cases r
    exact ⟨[], Reads.none, fun a m => nomatch m⟩
  | .bool b, v, u, h, r => by
    simp only [R] at h; subst h; cases r
    exact ⟨[], Reads.bool b, fun a m => nomatch m⟩
  | .int i, v, u, h, r => by
    simp only [R] at h; subst h; obtain ⟨t, rfl⟩ := r
    exact ⟨[], Reads.int i t, fun a m => nomatch m⟩
  | .str x, v, u, h, r => by
    simp only [R] at h; subst h; obtain ⟨t, rfl⟩ := r
    exact ⟨[], Reads.str x t, fun a m => nomatch m⟩
  | .list ds, v, u, h, r => by
    simp only [R] at h
    obtain ⟨a, xs, rfl, h1, h2⟩ := h
    cases r
    obtain ⟨its, rv, ⟨o, n, ho, hc, _, hd⟩, _⟩ := I.list (SqL.of (e _ _ h1))
    obtain ⟨as, hr, ha⟩ := RA.reads I e ds xs its h2 rv
    refine ⟨_, Reads.list ho hc hd hr, fun b hb => ?_⟩
    rcases List.mem_cons.mp hb with rfl | hb
    · rw [e _ _ h1]; exact fun q => nomatch q
    · exact ha b hb
  | .tuple ds, v, u, h, r => by
    simp only [R] at h
    obtain ⟨a, xs, rfl, h1, h2⟩ := h
    cases r
    obtain ⟨its, rv, ⟨o, ho, hc, n, hd⟩, _⟩ := I.tuple (SqT.of (e _ _ h1))
    obtain ⟨as, hr, ha⟩ := RA.reads I e ds xs its h2 rv
    exact ⟨_, Reads.tuple ho hc hd hr, ha⟩
  | .dict kvs, v, u, h, r => by
    simp only [R] at h
    obtain ⟨a, es, rfl, h1, h2⟩ := h
    cases r
    obtain ⟨_, _, vs, rel, o, des, ep, ho, hx, hd, hk, hp, hnd⟩ := dk_of I.hok (e _ _ h1)
    obtain ⟨as, bs, q1, q2, ha, hb⟩ := RK.reads I e kvs es vs des.toList h2 rel hp
    refine ⟨_, Reads.dict ho hx.1 hd q1 q2, fun b hm => ?_⟩
    rcases List.mem_append.mp hm with hm | hm
    · rcases List.mem_cons.mp hm with rfl | hm
      · rw [e _ _ h1]; exact fun q => nomatch q
      · exact ha b hm
    · exact hb b hm
theorem RA.reads (I : Inv X pins σ H s) (e : Same F H) : ∀ (ds : List PyData) (vs : List V) (us : List Value), RA F ds vs → Vals vs us → ∃ as, ReadsAll s.heap us ds as ∧ ∀ a ∈ as, H a ≠ none
  | [], vs, us, h, r => by
    simp only [RA] at h; subst h; cases r
    exact ⟨[], .nil, fun a m => nomatch m⟩
  | d :: ds, vs, us, h, r => by
    simp only [RA] at h
    obtain ⟨x, t, rfl, h1, h2⟩ := h
    cases r with
    | cons r1 r2 =>
      obtain ⟨as, q1, ha⟩ := R.reads I e d x _ h1 r1
      obtain ⟨bs, q2, hb⟩ := RA.reads I e ds t _ h2 r2
      refine ⟨_, .cons q1 q2, fun b hm => ?_⟩
      rcases List.mem_append.mp hm with hm | hm
      · exact ha b hm
      · exact hb b hm
theorem RK.reads (I : Inv X pins σ H s) (e : Same F H) : ∀ (ds : List (PyData × PyData)) (es : List (Key × V)) (vs : List (Key × Value)) (des : List DictEntry), RK F ds es → KV es vs → Pairs (mixKind X.prog X.w) des vs →
    ∃ as bs, ReadsAll s.heap (des.map (·.key)) (ds.map (·.1)) as ∧ ReadsAll s.heap (des.map (·.val)) (ds.map (·.2)) bs ∧ (∀ a ∈ as, H a ≠ none) ∧ ∀ a ∈ bs, H a ≠ none
  | [], es, vs, des, h, r, p => by
    simp only [RK] at h; subst h; cases r; cases p
    exact ⟨[], [], .nil, .nil, (fun a m => nomatch m), (fun a m => nomatch m)⟩
  | (k, d) :: ds, es, vs, des, h, r, p => by
    simp only [RK] at h
    obtain ⟨kk, x, t, rfl, rfl, h1, h2⟩ := h
    match vs, des, r, p with
    | (k2, w2) :: vs', de :: des', .cons r1 r2, .cons p0 pv pk =>
      obtain ⟨as, bs, q1, q2, ha, hb⟩ := RK.reads I e ds t _ _ h2 r2 pk
      obtain ⟨cs, q3, hc⟩ := R.reads I e d x w2 h1 r1.2
      have ek : kk = k2 := r1.1
      have hkey : Reads s.heap de.key (kD kk) [] := by
        rcases keyIs_shape (show keyIs k2 de.key = true from p0) with ⟨i, t, e1, e2⟩ | ⟨i, t, e1, e2⟩
        · rw [e2, ek, e1]; exact Reads.int i t
        · rw [e2, ek, e1]; exact Reads.str i t
      have ev : de.val = w2 := pv
      refine ⟨as, cs ++ bs, ?_, ?_, ha, fun b hm => ?_⟩
      · simpa using ReadsAll.cons hkey q1
      · rw [List.map_cons, List.map_cons, ev]
        exact ReadsAll.cons q3 q2
      · rcases List.mem_append.mp hm with hm | hm
        · exact hc b hm
        · exact hb b hm
end
end

/-- repr of data: d stands in F, a part of the heap -/
def rRepr : List V → Hp → VK → Prop := fun xs H Q => ∃ x d F, xs = [x] ∧ Same F H ∧ R F d x ∧ d.showable = true ∧ d.shown.length ≤ sizeLine ∧ d.depth ≤ 100 ∧ Q (.str d.shown) H
theorem cr_repr {X : Cx} {k : Nat} (hg : X.A.guards = some []) (hr : Room k X.A) (h1 : ∃ o, X.base.get? sysModules = some o) : CallR X (.builtin "repr") rRepr := by
  intro pins s σ H xs us Q I r h
  obtain ⟨x, d, F, rfl, hF, hR, hs, hz, hd, q⟩ := h
  obtain ⟨u, rfl, rx⟩ := Vals.one r
  have hsys : H sysModules = none := by
    obtain ⟨o, ho⟩ := h1
    exact (I.bs _ _ ho).2
  have hun := hr.un
  obtain ⟨as, hr1, ha⟩ := R.reads I hF d x u hR rx
  have kept : ∀ (h' : Heap) (t : Tok) (tk : Nat), (∀ b o, s.heap.get? b = some o → h'.get? b = some o) → EP X pins σ Q (.str d.shown t) { s with heap := h', toks := tk } :=
    fun h' t tk hk => ⟨.str d.shown, H, I.kept (t' := tk) hk, ⟨t, rfl⟩, q⟩
  have tok : ∀ (t : Tok) (tk : Nat), EP X pins σ Q (.str d.shown t) { s with toks := tk } :=
    fun t tk => ⟨.str d.shown, H, I.tok tk, ⟨t, rfl⟩, q⟩
  cases hr1 with
  | none => exact PySem.P.repr_of_none (by simpa only [PyData.shown_none] using tok _ _)
  | bool b => exact PySem.P.repr_of_bool (by simpa only [PyData.shown_bool] using tok _ _)
  | int i t =>
    refine PySem.P.repr_of_int ?_ (by simpa only [PyData.shown_int] using tok _ _)
    simpa only [PyData.showable, decide_eq_true_eq] using hs
  | str z t =>
    refine PySem.P.repr_of_str (by simpa only [PyData.shown_str] using tok _ _) ?_
    simpa only [PyData.shown_str] using hz
  | list q1 q2 q3 q4 =>
    exact repr_of_reads' (Reads.list q1 q2 q3 q4) hs (fun _ hm => ha _ hm hsys) hg (by omega) (fun b o e => e) (fun h' u tk hk => kept h' u tk hk) hz
  | tuple q1 q2 q3 q4 =>
    exact repr_of_reads' (Reads.tuple q1 q2 q3 q4) hs (fun _ hm => ha _ hm hsys) hg (by omega) (fun b o e => e) (fun h' u tk hk => kept h' u tk hk) hz
  | dict q1 q2 q3 q4 q5 =>
    exact repr_of_reads' (Reads.dict q1 q2 q3 q4 q5) hs (fun _ hm => ha _ hm hsys) hg (by omega) (fun b o e => e) (fun h' u tk hk => kept h' u tk hk) hz

/-! ### defs -/
section
variable {P : Program} {w : World} {K : PySem.W.Frag} {mg : Str → Option Value} {base : Heap}
/-- a def of the text's top, by its name -/
structure DefAt (K : PySem.W.Frag) (mg : Str → Option Value) (x : Str) (st : Stmt) (ps : List Str) : Prop where
  ex : ∃ f fd, mg x = some (.ref f) ∧ Fun K x x st f fd ∧ Binds K fd ps []
/-- its promise -/
structure Fn (P : Program) (w : World) (K : PySem.W.Frag) (mg : Str → Option Value) (base : Heap) (k : Nat) (x : Str) (ps : List Str) (sp : Sp) : Prop where
  ex : ∃ f fd, mg x = some (.ref f) ∧ PySem.W.keepIn K (.ref f) = true ∧ Binds K fd ps [] ∧ FnOk P w K mg base CX0 k f fd ps sp
theorem Fn.mono {j k : Nat} {x : Str} {ps : List Str} {sp : Sp} (F : Fn P w K mg base j x ps sp) (h : j ≤ k) : Fn P w K mg base k x ps sp := by
  obtain ⟨f, fd, a, b, c, d⟩ := F.ex
  exact ⟨f, fd, a, b, c, d.mono h⟩
theorem DefAt.fn {x : Str} {st : Stmt} {N ps : List Str} {k : Nat} {sp : Sp} (D : DefAt K mg x st ps) (S : FnScope N ps (defScope st)) (len : ∀ vs H Q E, sp vs H Q E → vs.length = ps.length)
    (hbody : ∀ (cdv : Value) (A : Around) (outer : List Env) (f : Addr) (s : Shared) (H : Hp) (vs : List V) (Q : VK) (E : XK), Room k (A.deeper (envOfC x (defScope st) s.heap.objs.size f cdv)) → sp vs H Q E →
      ∃ t, PSs (cxOf CX0 P w K mg base N x (defScope st) f cdv A outer s H E).nox (defBody st) t ∧ t { nx := fun _ H' => Q .non H', rt := Q } (start N vs) H) : Fn P w K mg base (k + 1) x ps sp := by
  obtain ⟨f, fd, hm, F, hb⟩ := D.ex
  exact ⟨f, fd, hm, F.kp, hb, F.ok S len fun cdv A outer s H vs Q E hr h => hbody cdv A outer f s H vs Q E hr h⟩
/-- f(e, ..) -/
theorem pe_fn {X : Cx} {k : Nat} {x : Str} {ps : List Str} {sp : Sp} {p pos : Pos} {e : Expr} {es : List Expr} {t : TA} (F : Fn X.prog X.w X.K X.mg X.base k x ps sp) (hr : Room k X.A) (hg : Gl X x)
    (ha : PA X (e :: es) t) (hdb : (x == ("__debug__" : Str)) = false := by decide) (he : starEach (e :: es) X.env = (false, eval e X.env) :: starEach es X.env := by rfl)
    (hpl : (backTo pos (starEach es X.env)).any (·.1) = false := by rfl) : PE X (.Call (.Name x p) (e :: es) [] pos) (tCall sp [] E0 t) := by
  obtain ⟨f, fd, a, b, c, d⟩ := F.ex
  exact pe_call d hr hg a b c .nil pass0 ha hdb he hpl

/-- a def that is called where no repr runs: what it may ask more -/
structure FnG (P : Program) (w : World) (K : PySem.W.Frag) (mg : Str → Option Value) (base : Heap) (k : Nat) (x : Str) (ps : List Str) (sp : Sp) : Prop where
  ex : ∃ f fd, mg x = some (.ref f) ∧ PySem.W.keepIn K (.ref f) = true ∧ Binds K fd ps [] ∧ (∀ vs H Q E, sp vs H Q E → vs.length = ps.length) ∧
    ∀ (A : Around) (outer : List Env) (s : Shared) (H : Hp) (args : Args) (us : List Value) (vs : List V) (Q : VK), A.guards = some [] → Room k A → Env0 P w K mg base A outer s H →
      BindsTo s fd args (ps.zip us) → Vals vs us → sp vs H Q E0 → codeAny (model P w) A (.call (.ref f) args) (CR CX0 outer P w H s Q E0) s
theorem Fn.g {k : Nat} {x : Str} {ps : List Str} {sp : Sp} (F : Fn P w K mg base k x ps sp) : FnG P w K mg base k x ps sp := by
  obtain ⟨f, fd, a, b, c, d⟩ := F.ex
  exact ⟨f, fd, a, b, c, d.len, fun A outer s H args us vs Q _ hr he hb hv hs => d.run A outer s H args us vs Q E0 hr he hb hv hs⟩
theorem FnG.mono {j k : Nat} {x : Str} {ps : List Str} {sp : Sp} (F : FnG P w K mg base j x ps sp) (h : j ≤ k) : FnG P w K mg base k x ps sp := by
  obtain ⟨f, fd, a, b, c, l, d⟩ := F.ex
  exact ⟨f, fd, a, b, c, l, fun A outer s H args us vs Q hg hr => d A outer s H args us vs Q hg (hr.mono h)⟩
theorem pe_fnG {X : Cx} {k : Nat} {x : Str} {ps : List Str} {sp : Sp} {p pos : Pos} {e : Expr} {es : List Expr} {t : TA} (F : FnG X.prog X.w X.K X.mg X.base k x ps sp) (hgd : X.A.guards = some []) (hr : Room k X.A) (hg : Gl X x)
    (ha : PA X (e :: es) t) (hdb : (x == ("__debug__" : Str)) = false := by decide) (he : starEach (e :: es) X.env = (false, eval e X.env) :: starEach es X.env := by rfl)
    (hpl : (backTo pos (starEach es X.env)).any (·.1) = false := by rfl) : PE X (.Call (.Name x p) (e :: es) [] pos) (tCall sp [] E0 t) := by
  obtain ⟨f, fd, hm, hk, hb, hl, run⟩ := F.ex
  constructor
  intro pins s σ H Q I h
  apply wpAny_Call_Name_kw
  apply ld_glob I hg hm _ hdb
  apply PySem.W.callWith_K (h₀ := X.base) I.ok.mod.kin hk _ he hpl
  refine thn (ha.run pos pins s σ H _ I h) ?_
  rintro us s1 ⟨vs, H1, I1, r, q⟩
  have q' : sp vs H1 Q E0 := by simpa using q
  have hlen : us.length = ps.length := by rw [← r.length]; exact hl _ _ _ _ q'
  refine ⟨I1.kIn, wpAny_call (codeAny_mono (run X.A X.stack s1 H1 ⟨us, []⟩ us vs Q hgd hr I1.env0 ?_ r q') ?_)⟩
  · have hb' := hb s1 us I1.kIn (by simpa using hlen)
    simpa using hb'
  · intro res s2 hq
    match res, hq with
    | .ok (.ret u), hq => exact I1.after hq
/-- its body -/
theorem DefAt.fnG {x : Str} {st : Stmt} {N ps : List Str} {k : Nat} {sp : Sp} (D : DefAt K mg x st ps) (S : FnScope N ps (defScope st)) (len : ∀ vs H Q E, sp vs H Q E → vs.length = ps.length)
    (hbody : ∀ (cdv : Value) (A : Around) (outer : List Env) (f : Addr) (s : Shared) (H : Hp) (vs : List V) (Q : VK), A.guards = some [] → Room k (A.deeper (envOfC x (defScope st) s.heap.objs.size f cdv)) → sp vs H Q E0 →
      ∃ t, PSs (cxOf CX0 P w K mg base N x (defScope st) f cdv A outer s H E0).nox (defBody st) t ∧ t { nx := fun _ H' => Q .non H', rt := Q } (start N vs) H) : FnG P w K mg base (k + 1) x ps sp := by
  obtain ⟨f, fd, hm, F, hb⟩ := D.ex
  refine ⟨f, fd, hm, F.kp, hb, len, ?_⟩
  intro A outer s H args us vs Q hgd hr e0 hbd rv hsp
  obtain ⟨oc, od, kV, doc, pm, an, cdv, ct, osl, rfl, lk, hcd⟩ := F.ex
  have hlen : vs.length = ps.length := len _ _ _ _ hsp
  have inK : K.In s.heap := e0.mod.kin.keeps fun b o q => (e0.bs b o q).1
  have nolim : s.heap.NoLimit := e0.mod.nolimit.keeps fun b o q => (e0.bs b o q).1
  have kinds : ∀ y ∈ ps.zip us, (defScope st).names.lookup y.1 = some .local ∨ ((defScope st).names.lookup y.1 = some .cell ∧ ((cellsFrom (s.heap.objs.size + 1) (defScope st).names []).lookup y.1).isSome = true) := by
    rintro ⟨n, v⟩ hy
    exact (S.par n (List.of_mem_zip hy).1).imp id fun q => ⟨q, PySem.W.cellsFrom_some _ _ _ (.inl q)⟩
  apply codeAny_call_function hr.depth (inK _ _ lk) rfl S.co S.gen rfl (PySem.W.codeRec_of inK hcd)
  apply hbd
  apply wpAny_newFunctionEnv_cells S.kind kinds
  rintro env rfl s1 ic
  refine ⟨nolim.keeps ic.toInCall.keep, codeAny_func ?_⟩
  obtain ⟨t, ht, hq⟩ := hbody cdv A outer f s H vs Q hgd (hr.deeper _) hsp
  have J := inv_start (CX := CX0) (E := E0) (qual := x) (f := f) (cd := cdv) (A := A) (outer := outer) S hr.hd e0 hlen rv ic
  refine wpAny_mono (ht.nox.run [] s1 (start N vs) H _ J hq) ?_ (fun e s' hs => hs)
  intro fl s' hs
  match fl, hs with
  | .ret u, hs =>
    obtain ⟨v, σ', H', J', rv', q⟩ := hs
    exact ⟨v, H', J'.os, J'.bare, J'.base, J'.hok, rv', q⟩
  | .next, hs =>
    obtain ⟨σ', H', J', q⟩ := hs
    exact ⟨.non, H', J'.os, J'.bare, J'.base, J'.hok, rfl, q⟩
  | .brk, hs =>
    obtain ⟨_, _, _, q⟩ := hs
    exact q.elim
  | .cont, hs =>
    obtain ⟨_, _, _, q⟩ := hs
    exact q.elim
end
end Pz

namespace Pz
open PySem L2
open PyProof.Rows (envOfC AllBare importsNone)
/-! ### the end of a law that asks repr -/
/-- the heap at the law's entry: the script alone is tracked, if it is no object of the module -/
def scriptHp (a : Addr) (vs : List Value) (ns : List Int) : Hp := fun b => if b = a then some (.frz { cls := .type "list", data := .seq vs.toArray } (.lst (ns.map V.int))) else none
theorem law_runG {P : Program} {w : World} {K : PySem.W.Frag} {mg mb : Str → Option Value} {k : Nat} {fa a : Addr} {x nm : Str} {sp : Sp} {s1 : Shared} {vs : List Value} {ns : List Int}
    (inK : K.In s1.heap) (nsM : s1.heap.Ns mainGlobals mg) (nsB : s1.heap.Ns builtinsNs mb) (eqB : ∀ y : Str, y ≠ "__name__" → mb y = bootBuiltins y) (nolim : s1.heap.NoLimit) (sysm : ∃ mm, s1.heap.Ns sysModules mm)
    (nogen : s1.gens = #[]) (hobj : s1.heap.get? a = some { cls := .type "list", data := .seq vs.toArray }) (hints : PyProof.Rows.IntsAre vs ns) (hlen : ns.length ≤ sizeLine) (room : Room k callerA) (hname : mg nm = some (.ref fa))
    (F : ∀ base : Heap, K.In base → base.Ns mainGlobals mg → (∃ o, base.get? sysModules = some o) → FnG P w K mg base k nm [x] sp)
    (hsp : ∀ (H : Hp) (Q : VK), SqL K H a (ns.map V.int) → (∀ H', Q (.bl true) H') → sp [.ref a] H Q E0) :
    codeAny (model P w) callerA (.call (.ref fa) ⟨[.ref a], []⟩) (fun r s' => r = .ok (.ret (.bool true)) ∧ OldK s1.heap s'.heap ∧ s'.os = s1.os ∧ AllBare s'.gens) s1 := by
  have rv : Vals (ns.map V.int) vs := vals_ints hints
  have lv := hints.length
  have run : ∀ H : Hp, (∀ b, H b = none ∨ (b = a ∧ K.lookup a = none ∧ H b = some (.frz { cls := .type "list", data := .seq vs.toArray } (.lst (ns.map V.int))))) → SqL K H a (ns.map V.int) → HOk P w H s1.heap →
      codeAny (model P w) callerA (.call (.ref fa) ⟨[.ref a], []⟩) (fun r s' => r = .ok (.ret (.bool true)) ∧ OldK s1.heap s'.heap ∧ s'.os = s1.os ∧ AllBare s'.gens) s1 := by
    intro H hH hS hok
    have notA : ∀ {b : Addr} {ob : Obj} {es : Array DictEntry} {ep : Nat}, s1.heap.get? b = some ob → ob.data = .dict es ep → H b = none := by
      intro b ob es ep e1 e2
      rcases hH b with q | ⟨rfl, _, _⟩
      · exact q
      · rw [hobj] at e1
        cases e1
        exact nomatch e2
    have under : ∀ {b : Addr} {m : Str → Option Value}, s1.heap.Ns b m → (hidT s1.heap H).Ns b m := by
      rintro b m ⟨ob, es, ep, e1, e2, r⟩
      exact ⟨ob, es, ep, hidT_get e1 (notA e1 e2), e2, r⟩
    have inKb : K.In (hidT s1.heap H) := by
      intro b ob e1
      refine hidT_get (inK b ob e1) ?_
      rcases hH b with q | ⟨rfl, q, _⟩
      · exact q
      · rw [q] at e1
        cases e1
    have sysb : ∃ ob, (hidT s1.heap H).get? sysModules = some ob := by
      obtain ⟨mm, hm⟩ := sysm
      obtain ⟨ob, es, ep, e1, _⟩ := under hm
      exact ⟨ob, e1⟩
    have md : Mod K mg (hidT s1.heap H) := by
      obtain ⟨mc, c1, c2⟩ := nolim
      exact ⟨inKb, under nsM, ⟨mb, under nsB, eqB⟩, ⟨mc, under c1, c2⟩⟩
    have env : Env0 P w K mg (hidT s1.heap H) callerA [] s1 H :=
      ⟨rfl, md, fun b ob e1 => of_hidT e1, Nat.le_of_eq (hidT_size _ _), trivial, (fun b hb => nomatch hb), hok, .of_eq nogen⟩
    obtain ⟨f, fd, hm, _, hb, _, runF⟩ := (F _ inKb (under nsM) sysb).ex
    rw [hname] at hm
    cases hm
    have hbind : BindsTo s1 fd ⟨[.ref a], []⟩ ([x].zip [Value.ref a]) := by simpa using hb s1 [.ref a] inK rfl
    refine codeAny_mono (runF callerA [] s1 H ⟨[.ref a], []⟩ [.ref a] [.ref a] (fun v _ => v = .bl true) rfl room env hbind (.cons rfl .nil) (hsp H _ hS fun _ => rfl)) ?_
    intro r s2 hr
    match r, hr with
    | .ok (.ret u), hr =>
      obtain ⟨v, H2, e_os, e_bare, un, hok2, rel, q⟩ := hr
      have q' : v = V.bl true := q
      subst q'
      have eu : u = Value.bool true := rel
      subst eu
      refine ⟨rfl, OldK.of_keep ?_, e_os, e_bare⟩
      intro b ob e1
      rcases hH b with q | ⟨rfl, _, q⟩
      · exact un.keep b ob e1 q (fun z => nomatch z) (fun z => nomatch z)
      · have q2 := un.frzs _ _ _ q
        have r1 := (hok _ _ q).1
        have r2 := (hok2 _ _ q2).1
        rw [e1] at r1
        cases r1
        exact r2
    | .error e, hr =>
      have hr' : CX0 [] H s1 E0 e s2 := hr
      exact hr'.elim
  match hk : K.lookup a with
  | some ob =>
    have e1 := inK a ob hk
    rw [hobj] at e1
    cases e1
    refine run (fun _ => none) (fun b => .inl rfl) (.inr ⟨_, vs.toArray, _, hk, rfl, rfl, rfl, ?_, by simpa using rv⟩) (fun b u z => nomatch z)
    rw [List.size_toArray, lv]
    exact hlen
  | none =>
    refine run (scriptHp a vs ns) (fun b => ?_) (.inl (.inr ⟨_, if_pos rfl⟩)) (fun b u z => ?_)
    · by_cases hb : b = a
      · exact .inr ⟨hb, hk, if_pos hb⟩
      · exact .inl (if_neg hb)
    · by_cases hb : b = a
      · have z' := (if_pos hb).symm.trans z
        cases z'
        subst hb
        exact ⟨hobj, by rw [List.length_map]; exact hlen, vs, _, rv, hobj⟩
      · have z' := (if_neg hb).symm.trans z
        cases z'
/-- the goal that k_head leaves -/
theorem walkG {l : PySem.W.OpenLaw} {k : Nat} {q : Program} {loose : List Str} {XP : (Str → Option Value) → Heap → Prop} {YP : World → Heap → Prop} {d : DefRec} {K : Params → PySem.W.Frag} {sp : PySem.W.Frag → Sp} {x : Str}
    (hn : l.most = some 63) (hdf : d.params.defaults = []) (himp : importsNone q = true) (room : Room k callerA)
    (hY : ∀ (w : World) (h : Heap), YP w h → (K w.params).In h)
    (F : ∀ (w : World) (mg : Str → Option Value) (h : Heap), (K w.params).In h → h.Ns mainGlobals mg →
      ∀ base : Heap, (K w.params).In base → base.Ns mainGlobals mg → (∃ o, base.get? sysModules = some o) → FnG l.prog w (K w.params) mg base k d.name [x] (sp (K w.params)))
    (hsp : ∀ (K : PySem.W.Frag) (H : Hp) (a : Addr) (ns : List Int) (Q : VK), ns.length ≤ 63 → SqL K H a (ns.map V.int) → (∀ H', Q (.bl true) H') → sp K [.ref a] H Q E0) :
    PySem.W.WalkO q loose XP YP l.row.toRowW d [] (fun f vs => PySem.call f vs) := by
  refine Att.attach_call hn hdf ?_
  intro w s0 s1 mg mb fa o pm cd doc a vs ns G Y ho hd hcd hmg hobj hints hlen hg
  have inK := hY w _ Y
  exact law_runG (x := x) inK G.T.g G.T.b G.T.builtins G.T.nolimit (let ⟨mm, h1, _⟩ := (G.T.seer himp).mods; ⟨mm, h1⟩) hg hobj hints (Nat.le_trans hlen (by decide)) room hmg
    (fun base b1 b2 b3 => F w mg _ inK G.T.g base b1 b2 b3) (fun H Q hS hQ => hsp _ H a ns Q hlen hS hQ)
end Pz

namespace Pz
open PySem L2
/-! ### one address hidden -/
def hid (D : Addr) (H : Hp) : Hp := fun b => if b = D then none else H b
theorem hid_at {D : Addr} {H : Hp} : hid D H D = none := by unfold hid; rw [if_pos rfl]
theorem hid_ne {D b : Addr} {H : Hp} (h : b ≠ D) : hid D H b = H b := by unfold hid; rw [if_neg h]
theorem hid_sub {D : Addr} {H : Hp} : Same (hid D H) H := fun b o e => by
  by_cases h : b = D
  · subst h; rw [hid_at] at e; cases e
  · rw [hid_ne h] at e; exact e
theorem hid_mono {D : Addr} {H H' : Hp} (s : ∀ b o, b ≠ D → H b = some o → H' b = some o) : Same (hid D H) (hid D H') := fun b o e => by
  by_cases h : b = D
  · subst h; rw [hid_at] at e; cases e
  · rw [hid_ne h] at e ⊢; exact s b o h e
theorem hid_upd {D : Addr} {H : Hp} {o : HO} : hid D (upd H D o) = hid D H := by
  funext b
  by_cases h : b = D
  · subst h; rw [hid_at, hid_at]
  · rw [hid_ne h, hid_ne h, upd_ne h]
theorem to_hid {D : Addr} {F H : Hp} (s : Same F H) (h : F D = none) : Same F (hid D H) := fun b o e => by
  have n : b ≠ D := fun z => by rw [z, h] at e; cases e
  rw [hid_ne n]; exact s b o e
theorem same_new {F H : Hp} {p : Addr} {o : HO} (s : Same F H) (h : H p = none) : Same F (upd H p o) := fun b u e => by
  have n : b ≠ p := fun z => by
    have := s b u e
    rw [z, h] at this; cases this
  rw [upd_ne n]; exact s b u e

theorem same_upd {H : Hp} {p : Addr} {o : HO} (h : H p = none) : Same H (upd H p o) := fun b u e => by
  have hn : b ≠ p := fun z => by rw [z, h] at e; cases e
  rw [upd_ne hn]; exact e
theorem nodup_ix2 {α : Type} {l : List α} (h : l.Nodup) {i j : Nat} {x : α} (a : l[i]? = some x) (b : l[j]? = some x) : i = j := nd_ix h a b
/-! ### the rules that name the written part, for a comprehension's block -/
section
variable {X : Cx} {K : PySem.W.Frag}
theorem ix_listK (h : X.K = K := by rfl) : IxR X (rIxL K) := h ▸ ix_list
theorem ix_tupK (h : X.K = K := by rfl) : IxR X (rIxT K) := h ▸ ix_tup
theorem len_seqK (h : X.K = K := by rfl) : CallR X (.builtin "len") (fun xs H Q => ∃ p ys, xs = [.ref p] ∧ (SqL K H p ys ∨ SqT K H p ys) ∧ Q (.int ys.length) H) := h ▸ call_len_seq
theorem list_ofK (h : X.K = K := by rfl) : CallR X (.type "list") (fun xs H Q => ∃ p ys, xs = [.ref p] ∧ (SqL K H p ys ∨ SqT K H p ys) ∧ ∀ l, H l = none → Q (.ref l) (upd H l (.lst ys))) := h ▸ call_list_of
theorem sl_listK (h : X.K = K := by rfl) : SlR X (rSlL K) := h ▸ sl_list
theorem sl_tupK (h : X.K = K := by rfl) : SlR X (rSlT K) := h ▸ sl_tup
theorem in_seqK (h : X.K = K := by rfl) : OpR X (compareOp .In) (rIn K false) := h ▸ op_in_seq
theorem notIn_seqK (h : X.K = K := by rfl) : OpR X (compareOp .NotIn) (rIn K true) := h ▸ op_notIn_seq
theorem eqDK (hu : X.A.units + 64 < cLine) (h : X.K = K := by rfl) : OpR X (compareOp .Eq) (rEqD K) := h ▸ op_eqD hu
theorem neDK (hu : X.A.units + 64 < cLine) (h : X.K = K := by rfl) : OpR X (compareOp .NotEq) (rNeD K) := h ▸ op_neD hu
theorem pe_fldK {e : Expr} {ta : TE} {f : Str} {pos : Pos} (he : PE X e ta) (hb : attributeBase e f X.env (eval e X.env) = eval e X.env) (h : X.K = K := by rfl) : PE X (.Attribute e f pos) (tFld K ta f) := h ▸ pe_fld he hb
theorem pi_listK {tg l : Expr} {tl : TE} (hl : PE X l tl) (h : X.K = K := by rfl) : PI X tg l (iList K tl) := h ▸ pi_list hl
theorem pi_tupK {tg l : Expr} {tl : TE} (hl : PE X l tl) (h : X.K = K := by rfl) : PI X tg l (iTup K tl) := h ▸ pi_tup hl
theorem pg_tupK {es : List Expr} {k : Nat} {t : TGs} {n : Nat} {pos : Pos} (hc : X.calm = true) (hg : PGs X es t)
    (hn : (assignEach es X.env).length = n := by rfl) (hst : (assignEach es X.env).findIdx? (·.1) = none := by rfl) (h : X.K = K := by rfl) : PG X (.Tuple es k pos) (gTup K n t) := h ▸ pg_tup hc hg hn hst
end
/-- a comprehension's block that captures nothing: whatever stands around it -/
theorem blk_closed {N : List Str} {sc0 sc scope : Scope} {own : List (Str × Nat)} (h : BlkOk N sc0 scope own) (hf : scope.names.all (fun y => decide (y.2 ≠ .free)) = true) : BlkOk N sc scope own :=
  ⟨h.kind, h.uniq, h.ix, fun y hy e => absurd e (of_decide_eq_true (List.all_eq_true.mp hf y hy)), h.own⟩
/-- an expression with a word behind it: what follows is shown once -/
def tMid (t : TE) : TE := fun σ H Q => ∃ Mid : V → Hp → Prop, t σ H Mid ∧ ∀ v H', Mid v H' → Q v H'
theorem pe_cut {X : Cx} {e : Expr} {t : TE} (h : PE X e t) : PE X e (tMid t) := by
  constructor
  intro pins s σ H Q I hq
  obtain ⟨Mid, h1, h2⟩ := hq
  exact thn (h.run pins s σ H Mid I h1) fun u s' ⟨v, H', I', r, q⟩ => ⟨v, H', I', r, h2 v H' q⟩
end Pz

namespace Pz
open PySem L2
/-! ### data without truth values and dicts: == is equality -/
mutual
def plain : PyData → Bool
  | .none => true
  | .bool _ => false
  | .int _ => true
  | .str s => PyData.strOk s
  | .list xs => plainAll xs
  | .tuple xs => plainAll xs
  | .dict _ => false
def plainAll : List PyData → Bool
  | [] => true
  | x :: xs => plain x && plainAll xs
end
theorem plainAll_of : ∀ {xs : List PyData}, (∀ x ∈ xs, plain x = true) → plainAll xs = true
  | [], _ => by simp only [plainAll]
  | x :: xs, h => by
    simp only [plainAll, Bool.and_eq_true]
    exact ⟨h x List.mem_cons_self, plainAll_of fun y hy => h y (List.mem_cons_of_mem _ hy)⟩
mutual
theorem eqv_iff : ∀ (d e : PyData), plain d = true → plain e = true → (PyData.eqv d e = true ↔ d = e)
  | .none, e, _, he => by cases e <;> simp [PyData.eqv, plain] at he ⊢
  | .bool b, e, hd, _ => by simp [plain] at hd
  | .int i, e, _, he => by cases e <;> simp [PyData.eqv, plain] at he ⊢
  | .str s, e, _, he => by cases e <;> simp [PyData.eqv, plain] at he ⊢
  | .list xs, e, hd, he => by
    cases e with
    | list ys =>
      simp only [plain] at hd he
      simp only [PyData.eqv, PyData.list.injEq]
      exact eqvAll_iff xs ys hd he
    | _ => simp [PyData.eqv, plain] at he ⊢
  | .tuple xs, e, hd, he => by
    cases e with
    | tuple ys =>
      simp only [plain] at hd he
      simp only [PyData.eqv, PyData.tuple.injEq]
      exact eqvAll_iff xs ys hd he
    | _ => simp [PyData.eqv, plain] at he ⊢
  | .dict kvs, e, hd, _ => by simp [plain] at hd
theorem eqvAll_iff : ∀ (xs ys : List PyData), plainAll xs = true → plainAll ys = true → (PyData.eqvAll xs ys = true ↔ xs = ys)
  | [], [], _, _ => by simp [PyData.eqvAll]
  | [], y :: ys, _, _ => by simp [PyData.eqvAll]
  | x :: xs, [], _, _ => by simp [PyData.eqvAll]
  | x :: xs, y :: ys, hx, hy => by
    simp only [plainAll, Bool.and_eq_true] at hx hy
    simp only [PyData.eqvAll, Bool.and_eq_true, List.cons.injEq]
    rw [eqv_iff x y hx.1 hy.1, eqvAll_iff xs ys hx.2 hy.2]
end
theorem eqv_eq {d e : PyData} (hd : plain d = true) (he : plain e = true) (h : d = e) : PyData.eqv d e = true := (eqv_iff d e hd he).mpr h
theorem eqv_ne {d e : PyData} (hd : plain d = true) (he : plain e = true) (h : d ≠ e) : PyData.eqv d e = false := by
  cases q : PyData.eqv d e with
  | false => rfl
  | true => exact absurd ((eqv_iff d e hd he).mp q) h
mutual
theorem plain_lay : ∀ d : PyData, plain d = true → d.canLay0 = true
  | .none, _ => by simp [PyData.canLay0]
  | .bool b, h => by simp [plain] at h
  | .int i, _ => by simp [PyData.canLay0]
  | .str s, h => by simpa only [PyData.canLay0, plain] using h
  | .list xs, h => by
    simp only [plain] at h
    simp only [PyData.canLay0]
    exact plainAll_lay xs h
  | .tuple xs, h => by
    simp only [plain] at h
    simp only [PyData.canLay0]
    exact plainAll_lay xs h
  | .dict _, h => by simp [plain] at h
theorem plainAll_lay : ∀ xs : List PyData, plainAll xs = true → PyData.canLayAll0 xs = true
  | [], _ => by simp [PyData.canLayAll0]
  | x :: xs, h => by
    simp only [plainAll, Bool.and_eq_true] at h
    simp only [PyData.canLayAll0, Bool.and_eq_true]
    exact ⟨plain_lay x h.1, plainAll_lay xs h.2⟩
end
theorem depthAll_le {n : Nat} : ∀ {xs : List PyData}, (∀ x ∈ xs, x.depth ≤ n) → PyData.depthAll xs ≤ n
  | [], _ => by simp [PyData.depthAll]
  | x :: xs, h => by
    have h1 := h x List.mem_cons_self
    have h2 := depthAll_le fun y hy => h y (List.mem_cons_of_mem _ hy)
    simp only [PyData.depthAll]
    omega
theorem shaped_of {d : PyData} (h : plain d = true) (hd : d.depth ≤ 64) : SeqAt.shaped d = true := by
  show (d.canLay0 && decide (d.depth ≤ 64)) = true
  rw [Bool.and_eq_true]
  exact ⟨plain_lay d h, decide_eq_true hd⟩
mutual
theorem plain_nodict : ∀ d : PyData, plain d = true → d.hasDict = false
  | .none, _ => by simp [PyData.hasDict]
  | .bool b, h => by simp [plain] at h
  | .int i, _ => by simp [PyData.hasDict]
  | .str s, _ => by simp [PyData.hasDict]
  | .list xs, h => by
    simp only [plain] at h
    simp only [PyData.hasDict]
    exact plainAll_nodict xs h
  | .tuple xs, h => by
    simp only [plain] at h
    simp only [PyData.hasDict]
    exact plainAll_nodict xs h
  | .dict _, h => by simp [plain] at h
theorem plainAll_nodict : ∀ xs : List PyData, plainAll xs = true → PyData.hasDictAll xs = false
  | [], _ => by simp [PyData.hasDictAll]
  | x :: xs, h => by
    simp only [plainAll, Bool.and_eq_true] at h
    simp only [PyData.hasDictAll, Bool.or_eq_false_iff]
    exact ⟨plain_nodict x h.1, plainAll_nodict xs h.2⟩
end
theorem R.dpp {K : PySem.W.Frag} {F H : Hp} {d : PyData} {v : V} (h : R F d v) (s : Same F H) (p : plain d = true) : Dp K H v d :=
  R.dp d v (R.mono s d v h) (plain_nodict d p)

/-! ### texts, sums, kinds as data -/
def dStrs (xs : List Str) : PyData := .list (xs.map .str)
def dInts (ns : List Int) : PyData := .list (ns.map .int)
def dRows (rows : List (List Int)) : PyData := .list (rows.map dInts)
def dStep (s : Str × Int × Int) : PyData := .tuple [.str s.1, .int s.2.1, .int s.2.2]
def dNS (s : Str × Int) : PyData := .tuple [.str s.1, .int s.2]
def eSum (tb : List (Str × Int)) : List (Key × V) := tb.map fun p => (Sum.inr p.1, V.int p.2)
def dSum (tb : List (Str × Int)) : PyData := .dict (tb.map fun p => (.str p.1, .int p.2))
def look (tb : List (Str × Int)) (c : Str) : Int := ((tb.find? fun p => decide (p.1 = c)).map (·.2)).getD 0
theorem valV_eSum (c : Str) : ∀ tb : List (Str × Int), (valV (eSum tb) (Sum.inr c)).getD (.int 0) = .int (look tb c)
  | [] => rfl
  | p :: tb => by
    have ih := valV_eSum c tb
    unfold look at ih ⊢
    by_cases h : p.1 = c
    · have e : valV (eSum (p :: tb)) (Sum.inr c) = some (.int p.2) := by
        show valV ((Sum.inr p.1, V.int p.2) :: eSum tb) (Sum.inr c) = _
        rw [valV_pos (by simp [h])]
      rw [e, List.find?_cons_of_pos (by simpa using h)]
      rfl
    · have e : valV (eSum (p :: tb)) (Sum.inr c) = valV (eSum tb) (Sum.inr c) := by
        show valV ((Sum.inr p.1, V.int p.2) :: eSum tb) (Sum.inr c) = _
        rw [valV_neg (by simpa using h)]
      rw [e, List.find?_cons_of_neg (by simpa using h)]
      exact ih
theorem RK_eSum {F : Hp} : ∀ (tb : List (Str × Int)) (es : List (Key × V)), RK F (tb.map fun p => (PyData.str p.1, PyData.int p.2)) es ↔ es = eSum tb
  | [], es => by simp [RK, eSum]
  | p :: tb, es => by
    simp only [List.map_cons, RK, R, eSum]
    constructor
    · rintro ⟨kk, x, r, rfl, hk, rfl, h2⟩
      cases kk with
      | inl i => exact nomatch hk
      | inr z =>
        cases hk
        rw [(RK_eSum tb r).mp h2]
        rfl
    · rintro rfl
      exact ⟨_, _, _, rfl, rfl, rfl, (RK_eSum tb _).mpr rfl⟩
theorem R_dSum {F : Hp} {tb : List (Str × Int)} {v : V} : R F (dSum tb) v ↔ ∃ a, v = .ref a ∧ F a = some (.dK (eSum tb)) := by
  unfold dSum
  simp only [R]
  constructor
  · rintro ⟨a, es, rfl, h, hk⟩
    rw [(RK_eSum tb es).mp hk] at h
    exact ⟨a, rfl, h⟩
  · rintro ⟨a, rfl, h⟩
    exact ⟨a, _, rfl, h, (RK_eSum tb _).mpr rfl⟩
theorem R_dInts {F : Hp} {ns : List Int} {v : V} : R F (dInts ns) v ↔ ∃ a, v = .ref a ∧ F a = some (.lst (ns.map V.int)) := by
  unfold dInts
  simp only [R]
  constructor
  · rintro ⟨a, xs, rfl, h, hk⟩
    rw [RA.ints_eq hk] at h
    exact ⟨a, rfl, h⟩
  · rintro ⟨a, rfl, h⟩
    exact ⟨a, _, rfl, h, RA.ints ns⟩
theorem R_dStrs {F : Hp} {ss : List Str} {v : V} : R F (dStrs ss) v ↔ ∃ a, v = .ref a ∧ F a = some (.lst (ss.map V.str)) := by
  unfold dStrs
  simp only [R]
  constructor
  · rintro ⟨a, xs, rfl, h, hk⟩
    rw [RA.strs_eq hk] at h
    exact ⟨a, rfl, h⟩
  · rintro ⟨a, rfl, h⟩
    exact ⟨a, _, rfl, h, RA.strs ss⟩
theorem R_dStep {F : Hp} {s : Str × Int × Int} {v : V} : R F (dStep s) v ↔ ∃ a, v = .ref a ∧ F a = some (.tup [.str s.1, .int s.2.1, .int s.2.2]) := by
  unfold dStep
  simp only [R, RA]
  constructor
  · rintro ⟨a, xs, rfl, h, x, r, rfl, rfl, x2, r2, rfl, rfl, x3, r3, rfl, rfl, rfl⟩
    exact ⟨a, rfl, h⟩
  · rintro ⟨a, rfl, h⟩
    exact ⟨a, _, rfl, h, _, _, rfl, rfl, _, _, rfl, rfl, _, _, rfl, rfl, rfl⟩
theorem R_dNS {F : Hp} {s : Str × Int} {v : V} : R F (dNS s) v ↔ ∃ a, v = .ref a ∧ F a = some (.tup [.str s.1, .int s.2]) := by
  unfold dNS
  simp only [R, RA]
  constructor
  · rintro ⟨a, xs, rfl, h, x, r, rfl, rfl, x2, r2, rfl, rfl, rfl⟩
    exact ⟨a, rfl, h⟩
  · rintro ⟨a, rfl, h⟩
    exact ⟨a, _, rfl, h, _, _, rfl, rfl, _, _, rfl, rfl, rfl⟩
theorem R_list {F : Hp} {ds : List PyData} {v : V} : R F (.list ds) v ↔ ∃ a xs, v = .ref a ∧ F a = some (.lst xs) ∧ RA F ds xs := by simp only [R]
theorem plain_dNS {s : Str × Int} (h : PyData.strOk s.1 = true) : plain (dNS s) = true := by simp [plain, plainAll, dNS, h]
theorem plain_dInts (ns : List Int) : plain (dInts ns) = true := by
  simp only [dInts, plain]
  exact plainAll_of fun x hx => by obtain ⟨i, _, rfl⟩ := List.mem_map.mp hx; simp [plain]
theorem depth_dInts (ns : List Int) : (dInts ns).depth ≤ 1 := by
  simp only [dInts, PyData.depth]
  have := depthAll_le (n := 0) (xs := ns.map PyData.int) fun x hx => by obtain ⟨i, _, rfl⟩ := List.mem_map.mp hx; simp [PyData.depth]
  omega
/-- the frozen part grows: what is new in it is new in the heap -/
structure Gr (F H F' H' : Hp) : Prop where
  le : Same F F'
  sub : Same F' H'
  new : ∀ b, F' b ≠ none → F b ≠ none ∨ H b = none
theorem Gr.trans {F H F1 H1 F2 H2 : Hp} (a : Gr F H F1 H1) (b : Gr F1 H1 F2 H2) (k : ∀ x, H1 x = none → H x = none) : Gr F H F2 H2 :=
  ⟨a.le.trans b.le, b.sub, fun x hx => (b.new x hx).elim (fun h => a.new x h) fun h => .inr (k x h)⟩
theorem Gr.one {F H H' : Hp} {p : Addr} {o : HO} (s : Same F H') (h : H p = none) (h' : H' p = some o) : Gr F H (upd F p o) H' := by
  refine ⟨?_, ?_, ?_⟩
  · intro b u e
    by_cases n : b = p
    · subst n
      have := s b u e
      rw [h'] at this
      cases this
      exact upd_same
    · rw [upd_ne n]; exact e
  · intro b u e
    by_cases n : b = p
    · subst n
      rw [upd_same] at e
      cases e
      exact h'
    · rw [upd_ne n] at e; exact s b u e
  · intro b hb
    by_cases n : b = p
    · subst n; exact .inr h
    · rw [upd_ne n] at hb; exact .inl hb
theorem same_none {H H' : Hp} (s : Same H H') {x : Addr} (h : H' x = none) : H x = none := Same.free s h
theorem Gr.refl {F H : Hp} (s : Same F H) : Gr F H F H := ⟨Same.refl F, s, fun b h => .inl h⟩
theorem Gr.base {F H H' : Hp} (s : Same F H) (e : Same H H') : Gr F H F H' := ⟨Same.refl F, s.trans e, fun b h => .inl h⟩
theorem Gr.step {F H F' H' H2 : Hp} (g : Gr F H F' H') (e : Same H' H2) : Gr F H F' H2 := ⟨g.le, g.sub.trans e, g.new⟩
theorem Gr.put {F H F' H' : Hp} {D : Addr} {o : HO} (g : Gr F H F' H') (h : F' D = none) : Gr F H F' (upd H' D o) :=
  ⟨g.le, fun b u e => by
    have n : b ≠ D := fun z => by rw [z, h] at e; cases e
    rw [upd_ne n]; exact g.sub b u e, g.new⟩
theorem Gr.snoc {F H F' H' : Hp} {D : Addr} {o : HO} (g : Gr F H F' H') (hD : H D = none) (h' : H' D = some o) : Gr F H (upd F' D o) H' := by
  have a := Gr.one (F := F') (H := H) g.sub hD h'
  exact ⟨g.le.trans a.le, a.sub, fun b hb => (a.new b hb).elim (fun h => g.new b h) .inr⟩
theorem Gr.out {F H F' H' : Hp} {D : Addr} (g : Gr F H F' H') (a : F D = none) (b : H D ≠ none) : F' D = none := by
  cases q : F' D with
  | none => rfl
  | some o => exact ((g.new D (by rw [q]; exact fun z => nomatch z)).elim (fun h => h a) b).elim

/-! ### comprehensions that make data -/
section
variable {K : PySem.W.Frag} {a D : Addr} {xs : List V} {g : TG} {te : TE} {vs : List Nat} {σ : St} {H F0 : Hp} {Qd : Hp → Prop}
/-- over a list; the heap only grows; F0 what is frozen ahead -/
theorem lc_data (ds : List PyData) (hl : ds.length = xs.length) (hz : xs.length ≤ 1000) (hs : SqL K H a xs) (hD : H D = none) (sF : Same F0 H)
    (step : ∀ (i : Nat) (x : V) (d : PyData) (F' H' : Hp) (Q' : VK), xs[i]? = some x → ds[i]? = some d → Same H H' → Gr F0 H F' H' → H' D ≠ none → F' D = none →
      (∀ y F4 H4, Same H' H4 → Gr F' H' F4 H4 → R F4 d y → Q' y H4) → g x (wipe σ vs) H' fun σ2 H2 => wipe σ2 vs = wipe σ vs ∧ te σ2 H2 Q')
    (hd : ∀ F' H' ys, Same H H' → Gr F0 H F' H' → F' D = none → RA F' ds ys → H' D = some (.lst ys) → Qd H') :
    ∃ W : Nat → Nat → Hp → Prop, (∃ m, W 0 m (upd H D (.lst []))) ∧ ∀ i m H, W i m H →
      ((Itl K a).stop i H ∧ Qd H) ∨ ((Itl K a).go i H ∧ ∃ Nx : Hp → Prop, (∀ H', Nx H' → ∃ m', m' < m ∧ W (i + 1) m' H') ∧ ∀ x H', (Itl K a).yld i H x H' → g x (wipe σ vs) H' fun σ2 H2 => wipe σ2 vs = wipe σ vs ∧ tYes σ2 H2 fun b H3 =>
        if b = true then te σ2 H3 fun y H4 => ∃ acc, H4 D = some (.lst acc) ∧ acc.length < sizeLine ∧ Nx (upd H4 D (.lst (acc ++ [y]))) else Nx H3) := by
  have f0D : F0 D = none := same_none sF hD
  refine lc_list (tt := tYes) (fun i H' => ∃ F' ys, Same H H' ∧ Gr F0 H F' H' ∧ F' D = none ∧ RA F' (ds.take i) ys ∧ H' D = some (.lst ys))
    ⟨F0, [], same_upd hD, (Gr.refl sF).put f0D, f0D, by simp [RA], upd_same⟩ (fun i H' _ ⟨F', ys, s1, _⟩ => s1.seq hs) (fun i x H' hx ⟨F', ys, s1, gr, fD, ra, hD'⟩ => ?_) (fun H' ⟨F', ys, s1, gr, fD, ra, hD'⟩ => ?_)
  · have hi := (List.getElem?_eq_some_iff.mp hx).1
    have hd' : ds[i]? = some (ds[i]'(by omega)) := List.getElem?_eq_getElem (by omega)
    have el := RA.len ra
    rw [List.length_take] at el
    have nD : H' D ≠ none := by rw [hD']; exact fun q => nomatch q
    exact step i x _ F' H' (fun y H4 => ∃ acc, H4 D = some (.lst acc) ∧ acc.length < sizeLine ∧ ∃ F' ys, Same H (upd H4 D (.lst (acc ++ [y]))) ∧ Gr F0 H F' (upd H4 D (.lst (acc ++ [y]))) ∧ F' D = none ∧ RA F' (ds.take (i + 1)) ys ∧ (upd H4 D (.lst (acc ++ [y]))) D = some (.lst ys)) hx hd' s1 gr nD fD (by
      rintro y F4 H4 s4 g4 hR
      have f4D := g4.out fD nD
      refine ⟨ys, s4 _ _ hD', small1000 (by omega), F4, ys ++ [y], ?_, (gr.trans g4 fun z hz => same_none s1 hz).put f4D, f4D, ?_, upd_same⟩
      · exact fun b o e => by
          rw [upd_ne (fun z => by rw [z, hD] at e; cases e)]
          exact s4 _ _ (s1 _ _ e)
      · rw [List.take_add_one, hd']
        exact RA.snoc (RA.mono g4.le _ _ ra) hR)
  · rw [List.take_of_length_le (by omega)] at ra
    exact hd F' H' ys s1 gr fD ra hD'
end
/-! ### comprehensions that make new lists, all apart -/
section
variable {K : PySem.W.Frag} {a D : Addr} {xs : List V} {g : TG} {te : TE} {vs : List Nat} {σ : St} {H : Hp} {Qd : Hp → Prop}
theorem lc_copy (css : List (List V)) (hl : css.length = xs.length) (hz : xs.length ≤ 1000) (hs : SqL K H a xs) (hD : H D = none)
    (step : ∀ (i : Nat) (x : V) (c : List V) (H' : Hp) (Q' : VK), xs[i]? = some x → css[i]? = some c → Same H H' → 
      (∀ p, H' p = none → Q' (.ref p) (upd H' p (.lst c))) → g x (wipe σ vs) H' fun σ2 H2 => wipe σ2 vs = wipe σ vs ∧ te σ2 H2 Q')
    (hd : ∀ H' rs, Same H H' → rs.length = css.length → H' D = some (.lst (rs.map V.ref)) → (D :: rs).Nodup → (∀ r ∈ rs, H r = none) → (∀ (i : Nat) r c, rs[i]? = some r → css[i]? = some c → H' r = some (.lst c)) → Qd H') :
    ∃ W : Nat → Nat → Hp → Prop, (∃ m, W 0 m (upd H D (.lst []))) ∧ ∀ i m H, W i m H →
      ((Itl K a).stop i H ∧ Qd H) ∨ ((Itl K a).go i H ∧ ∃ Nx : Hp → Prop, (∀ H', Nx H' → ∃ m', m' < m ∧ W (i + 1) m' H') ∧ ∀ x H', (Itl K a).yld i H x H' → g x (wipe σ vs) H' fun σ2 H2 => wipe σ2 vs = wipe σ vs ∧ tYes σ2 H2 fun b H3 =>
        if b = true then te σ2 H3 fun y H4 => ∃ acc, H4 D = some (.lst acc) ∧ acc.length < sizeLine ∧ Nx (upd H4 D (.lst (acc ++ [y]))) else Nx H3) := by
  refine lc_list (tt := tYes) (fun i H' => ∃ rs, Same H H' ∧ rs.length = i ∧ H' D = some (.lst (rs.map V.ref)) ∧ (D :: rs).Nodup ∧ (∀ r ∈ rs, H r = none) ∧ (∀ (j : Nat) r c, rs[j]? = some r → css[j]? = some c → H' r = some (.lst c)))
    ⟨[], same_upd hD, rfl, upd_same, by simp, (fun r h => nomatch h), (fun j r c h => by simp at h)⟩ (fun i H' _ ⟨rs, s1, _⟩ => s1.seq hs) ?_ ?_
  · rintro i x H' hx ⟨rs, s1, el, hD', nd, fr, ct⟩
    have hi := (List.getElem?_eq_some_iff.mp hx).1
    have hd' : css[i]? = some (css[i]'(by omega)) := List.getElem?_eq_getElem (by omega)
    generalize css[i]'(by omega) = c at hd'
    exact step i x c H' (fun y H4 => ∃ acc, H4 D = some (.lst acc) ∧ acc.length < sizeLine ∧ ∃ rs, Same H (upd H4 D (.lst (acc ++ [y]))) ∧ rs.length = i + 1 ∧ (upd H4 D (.lst (acc ++ [y]))) D = some (.lst (rs.map V.ref)) ∧ (D :: rs).Nodup ∧ (∀ r ∈ rs, H r = none) ∧
        (∀ (j : Nat) r c, rs[j]? = some r → css[j]? = some c → (upd H4 D (.lst (acc ++ [y]))) r = some (.lst c))) hx hd' s1 (by
      intro p hp
      have nDp : D ≠ p := fun z => by rw [z, hp] at hD'; cases hD'
      have hold : ∀ r ∈ rs, H' r ≠ none := fun r hr => by
        obtain ⟨j, hj, ej⟩ := List.mem_iff_getElem.mp hr
        have e1 : rs[j]? = some r := by rw [List.getElem?_eq_getElem hj, ej]
        have e2 : css[j]? = some (css[j]'(by omega)) := List.getElem?_eq_getElem (by omega)
        rw [ct j r _ e1 e2]; exact fun z => nomatch z
      have hpr : p ∉ rs := fun z => hold p z hp
      rw [List.nodup_cons] at nd
      refine ⟨_, by rw [upd_ne nDp]; exact hD', by rw [List.length_map]; exact small1000 (by omega), rs ++ [p], ?_, by simp [el], by rw [upd_same, List.map_append]; rfl, ?_, ?_, ?_⟩
      · exact fun b o e => by
          rw [upd_ne (fun z => by rw [z, hD] at e; cases e)]
          exact same_upd hp _ _ (s1 _ _ e)
      · rw [List.nodup_cons]
        refine ⟨?_, ?_⟩
        · intro z
          rcases List.mem_append.mp z with z | z
          · exact nd.1 z
          · exact nDp (List.mem_singleton.mp z)
        · rw [List.nodup_append]
          refine ⟨nd.2, by simp, ?_⟩
          intro r hr r2 hr2 e
          rw [List.mem_singleton.mp hr2] at e
          exact hpr (e ▸ hr)
      · intro r hr
        rcases List.mem_append.mp hr with hr | hr
        · exact fr r hr
        · rw [List.mem_singleton.mp hr]; exact same_none s1 hp
      · intro j r c2 e1 e2
        by_cases hj : j < rs.length
        · rw [List.getElem?_append_left hj] at e1
          have hr := List.mem_of_getElem? e1
          have nr : r ≠ D := fun z => nd.1 (z ▸ hr)
          have nrp : r ≠ p := fun z => hpr (z ▸ hr)
          rw [upd_ne nr, upd_ne nrp]
          exact ct j r c2 e1 e2
        · have ej : j = i := by
            have := (List.getElem?_eq_some_iff.mp e1).1
            simp at this
            omega
          subst ej
          rw [List.getElem?_append_right (by omega)] at e1
          have : j - rs.length = 0 := by omega
          rw [this] at e1
          have er : p = r := by simpa using e1
          subst er
          rw [hd'] at e2
          cases e2
          rw [upd_ne (Ne.symm nDp)]
          exact upd_same)
  · rintro H' ⟨rs, s1, el, hD', nd, fr, ct⟩
    exact hd H' rs s1 (by rw [hl]; exact el) hD' nd fr ct
end
/-- all that came anew -/
def grow (F H H' : Hp) : Hp := fun b => if H b = none then H' b else F b
theorem gr_grow {F H H' : Hp} (s : Same F H) (e : Same H H') : Gr F H (grow F H H') H' := by
  refine ⟨?_, ?_, ?_⟩
  · intro b o q
    unfold grow
    rw [if_neg (by rw [s _ _ q]; exact fun z => nomatch z)]
    exact q
  · intro b o q
    unfold grow at q
    by_cases h : H b = none
    · rw [if_pos h] at q; exact q
    · rw [if_neg h] at q; exact e _ _ (s _ _ q)
  · intro b q
    unfold grow at q
    by_cases h : H b = none
    · exact .inr h
    · rw [if_neg h] at q; exact .inl q
theorem grow_new {F H H' : Hp} {b : Addr} {o : HO} (h : H b = none) (h' : H' b = some o) : grow F H H' b = some o := by
  unfold grow; rw [if_pos h]; exact h'
end Pz

namespace Pz
open PySem L2
/-! ### how long the text of data is -/
structure Shw (m n : Nat) (d : PyData) : Prop where
  lv : d.leavesShort 16 = true
  sh : d.showable = true
  bk : d.bulk ≤ m
  dp : d.depth ≤ n
theorem Shw.mono {m n m' n' : Nat} {d : PyData} (h : Shw m n d) (a : m ≤ m') (b : n ≤ n') : Shw m' n' d := ⟨h.lv, h.sh, Nat.le_trans h.bk a, Nat.le_trans h.dp b⟩
theorem Shw.fits {m n : Nat} {d : PyData} (h : Shw m n d) (a : m ≤ 2 ^ 19) (b : n ≤ 100) : d.showable = true ∧ d.shown.length ≤ sizeLine ∧ d.depth ≤ 100 := by
  refine ⟨h.sh, ?_, Nat.le_trans h.dp b⟩
  have h1 := PyData.shown_le_bulk 16 (by decide) d h.lv
  have e : (2 : Nat) ^ 19 = 524288 := by decide
  have h2 : (16 + 2) * d.bulk ≤ 18 * 524288 := Nat.mul_le_mul (by omega) (by have := h.bk; omega)
  rw [sizeLine_eq]
  omega
theorem shw_int {i : Int} (h : -(10 ^ 14) ≤ i ∧ i ≤ 10 ^ 14) : Shw 0 0 (.int i) := by
  have hn : i.natAbs < 10 ^ 15 := by
    have e1 : (10 : Int) ^ 14 = 100000000000000 := by decide
    have e2 : (10 : Nat) ^ 15 = 1000000000000000 := by decide
    omega
  refine ⟨?_, ?_, Nat.le_refl _, Nat.le_refl _⟩
  · have e := int_text_length_le10 (k := 15) (by decide) hn
    simp only [PyData.leavesShort, decide_eq_true_eq]
    show (Str.ofString (toString i)).length ≤ 16
    rw [ofString_length]; exact e
  · simp only [PyData.showable, decide_eq_true_eq]
    by_cases z : i.natAbs = 0
    · rw [z]; decide
    · exact Nat.lt_of_lt_of_le ((Nat.log2_lt z).mpr (Nat.lt_of_lt_of_le hn (show 10 ^ 15 ≤ 2 ^ 60 by decide))) (by decide)
theorem shw_str {s : Str} {m : Nat} (h : PyData.strOk s = true) (l : s.length ≤ m) : Shw m 0 (.str s) := by
  refine ⟨PyData.leavesShort_of_canLay0 16 (.str s) (by simpa only [PyData.canLay0] using h) rfl, rfl, l, Nat.le_refl _⟩
theorem shwAll {m n : Nat} : ∀ {ds : List PyData}, (∀ d ∈ ds, Shw m n d) → PyData.leavesShortAll 16 ds = true ∧ PyData.showableAll ds = true ∧ PyData.bulkAll ds ≤ ds.length * (m + 1) ∧ PyData.depthAll ds ≤ n
  | [], _ => ⟨rfl, rfl, by simp [PyData.bulkAll], by simp [PyData.depthAll]⟩
  | d :: ds, h => by
    have h1 := h d List.mem_cons_self
    obtain ⟨a, b, c, e⟩ := shwAll (ds := ds) fun x hx => h x (List.mem_cons_of_mem _ hx)
    refine ⟨?_, ?_, ?_, ?_⟩
    · simp only [PyData.leavesShortAll, Bool.and_eq_true]; exact ⟨h1.lv, a⟩
    · simp only [PyData.showableAll, Bool.and_eq_true]; exact ⟨h1.sh, b⟩
    · simp only [PyData.bulkAll, List.length_cons, Nat.add_mul]
      have := h1.bk
      omega
    · simp only [PyData.depthAll]
      have := h1.dp
      omega
theorem shw_list {m n l : Nat} {ds : List PyData} (h : ∀ d ∈ ds, Shw m n d) (hl : ds.length ≤ l) : Shw (l * (m + 1)) (n + 1) (.list ds) := by
  obtain ⟨a, b, c, e⟩ := shwAll h
  exact ⟨a, b, Nat.le_trans c (Nat.mul_le_mul_right _ hl), by simp only [PyData.depth]; omega⟩
theorem shw_tup {m n l : Nat} {ds : List PyData} (h : ∀ d ∈ ds, Shw m n d) (hl : ds.length ≤ l) : Shw (l * (m + 1)) (n + 1) (.tuple ds) := by
  obtain ⟨a, b, c, e⟩ := shwAll h
  exact ⟨a, b, Nat.le_trans c (Nat.mul_le_mul_right _ hl), by simp only [PyData.depth]; omega⟩
theorem shw_kv {m n : Nat} : ∀ {ds : List (PyData × PyData)}, (∀ d ∈ ds, Shw m n d.1 ∧ Shw m n d.2) → PyData.leavesShortKv 16 ds = true ∧ PyData.showableKv ds = true ∧ PyData.bulkKv ds ≤ ds.length * (2 * m + 2) ∧ PyData.depthKv ds ≤ n
  | [], _ => ⟨rfl, rfl, by simp [PyData.bulkKv], by simp [PyData.depthKv]⟩
  | (x, y) :: ds, h => by
    obtain ⟨h1, h2⟩ := h (x, y) List.mem_cons_self
    obtain ⟨a, b, c, e⟩ := shw_kv (ds := ds) fun x hx => h x (List.mem_cons_of_mem _ hx)
    refine ⟨?_, ?_, ?_, ?_⟩
    · simp only [PyData.leavesShortKv, Bool.and_eq_true]; exact ⟨⟨h1.lv, h2.lv⟩, a⟩
    · simp only [PyData.showableKv, Bool.and_eq_true]; exact ⟨⟨h1.sh, h2.sh⟩, b⟩
    · simp only [PyData.bulkKv, List.length_cons, Nat.add_mul]
      have := h1.bk
      have := h2.bk
      simp only at *
      omega
    · simp only [PyData.depthKv]
      have := h1.dp
      have := h2.dp
      simp only at *
      omega
theorem shw_dict {m n l : Nat} {ds : List (PyData × PyData)} (h : ∀ d ∈ ds, Shw m n d.1 ∧ Shw m n d.2) (hl : ds.length ≤ l) : Shw (l * (2 * m + 2)) (n + 1) (.dict ds) := by
  obtain ⟨a, b, c, e⟩ := shw_kv h
  exact ⟨a, b, Nat.le_trans c (Nat.mul_le_mul_right _ hl), by simp only [PyData.depth]; omega⟩
theorem shw_ints {l : Nat} {ns : List Int} (h : ∀ x ∈ ns, -(10 ^ 14) ≤ x ∧ x ≤ 10 ^ 14) (hl : ns.length ≤ l) : Shw (l * (0 + 1)) 1 (dInts ns) :=
  shw_list (fun d hd => by obtain ⟨i, hi, rfl⟩ := List.mem_map.mp hd; exact shw_int (h i hi)) (by rw [List.length_map]; exact hl)
theorem shw_rows {l r : Nat} {rows : List (List Int)} (h : ∀ row ∈ rows, row.length ≤ l ∧ ∀ x ∈ row, -(10 ^ 14) ≤ x ∧ x ≤ 10 ^ 14) (hl : rows.length ≤ r) : Shw (r * (l * (0 + 1) + 1)) 2 (dRows rows) :=
  shw_list (fun d hd => by obtain ⟨i, hi, rfl⟩ := List.mem_map.mp hd; exact shw_ints (h i hi).2 (h i hi).1) (by rw [List.length_map]; exact hl)
end Pz

namespace Pz
open PySem PySem.Spec PyProof.Rows L2
/-! ### dict(zip(xs, ys)) of two lists -/
theorem kv_pairs : ∀ {kvs : List (Key × V)} {us vs : List Value}, Vals (kvs.map fun p => kV p.1) us → Vals (kvs.map fun p => p.2) vs →
    ∃ prs : List (Key × Value), KV kvs prs ∧ prs.length = kvs.length ∧ us.length = kvs.length ∧ vs.length = kvs.length ∧ ∀ (i : Nat) u v, us[i]? = some u → vs[i]? = some v → ∃ k, prs[i]? = some (k, v) ∧ RelV (kV k) u
  | [], us, vs, r, r2 => by
    cases r
    cases r2
    exact ⟨[], .nil, rfl, rfl, rfl, fun i u v e => by simp at e⟩
  | kv :: kvs, us, vs, r, r2 => by
    rw [List.map_cons] at r r2
    cases r with
    | cons h t =>
      cases r2 with
      | cons h2 t2 =>
        obtain ⟨prs, k1, k2, k3, k4, k5⟩ := kv_pairs t t2
        refine ⟨(kv.1, _) :: prs, .cons ⟨rfl, h2⟩ k1, by simp [k2], by simp [k3], by simp [k4], fun i u v e1 e2 => ?_⟩
        cases i with
        | zero =>
          have e1' := Option.some.inj e1
          have e2' := Option.some.inj e2
          subst e1'
          subst e2'
          exact ⟨kv.1, rfl, h⟩
        | succ i => exact k5 i u v (by simpa using e1) (by simpa using e2)
def tDictZip (K : PySem.W.Frag) (ta : TA) : TE := fun σ H Q => ta σ H fun vs H1 => ∃ (a b : Addr) (kvs : List (Key × V)), vs = [.ref a, .ref b] ∧ SqL K H1 a (kvs.map fun p => kV p.1) ∧ SqL K H1 b (kvs.map fun p => p.2) ∧
  ∀ p, H1 p = none → Q (.ref p) (upd H1 p (.dK (mergeK [] kvs)))
theorem pe_dictzip {X : Cx} {e e2 : Expr} {ta : TA} {p p0 pos pos0 : Pos} (hgd : Gl X "dict") (hmd : X.mg "dict" = none) (hgz : Gl X "zip") (hmz : X.mg "zip" = none) (hcalm : X.calm = true) (ha : PA X [e, e2] ta)
    (hs : starEach [e, e2] X.env = (false, eval e X.env) :: starEach [e2] X.env := by rfl) (hpl : (backTo pos (starEach [e2] X.env)).any (·.1) = false := by rfl)
    (hs0 : starEach [.Call (.Name "zip" p) [e, e2] [] pos] X.env = (false, eval (.Call (.Name "zip" p) [e, e2] [] pos) X.env) :: starEach [] X.env := by rfl) :
    PE X (.Call (.Name "dict" p0) [.Call (.Name "zip" p) [e, e2] [] pos] [] pos0) (tDictZip X.K ta) := by
  refine ⟨fun pins s σ H Q I h => ?_⟩
  refine Call_ (ld_blt I hgd hmd PyProof.Rows.boot_dict (PyProof.Rows.callWith_type1 ?_ hs0 rfl))
  rw [hs0]
  refine Calls.spliced_cons (Call_ (ld_blt I hgz hmz PyProof.Rows.boot_zip (PyProof.Rows.callWith_type1 (thn (ha.run pos pins s σ H _ I h) fun us s1 ⟨vs, H1, I1, r1, q1⟩ => ?_) hs hpl)))
  obtain ⟨a, b, kvs, ex, hqx, hqy, q⟩ := q1
  subst ex
  cases r1 with
  | cons r rr =>
    cases rr with
    | cons r' rr =>
      cases rr
      cases r
      cases r'
      obtain ⟨its, rv, p1, z1⟩ := I1.list hqx
      obtain ⟨its2, rv2, p2, z2⟩ := I1.list hqy
      refine call_zip_2 p1.isList p2.isList fun h' hz hTI hTO h1 h2 hsz hk => ?_
      refine Calls.spliced_nil ?_
      obtain ⟨prs, rel, pl, ul, vl, hpr⟩ := kv_pairs rv rv2
      have la : a < s1.heap.objs.size := p1.lt
      have lb : b < s1.heap.objs.size := p2.lt
      have hk5 : s1.heap.objs.size ≤ h'.objs.size := by rw [hsz]; exact Nat.le_add_right _ _
      refine call_dict_pairs (knd := mixKind X.prog X.w) (kvs := prs) (PairArg.zip (s1.heap.objs.size + 4) (s1.heap.objs.size + 2) (s1.heap.objs.size + 3) s1.heap.objs.size (s1.heap.objs.size + 1) a b (PySem.W.ktu_apart s1.heap.objs.size a b la lb) its.toArray its2.toArray)
        (I1.ok.hd hcalm) ⟨hz, hTI, ⟨_, _, hTO⟩, h1, h2, p1.isList.at fun o e => hk _ o e, p2.isList.at fun o e => hk _ o e⟩ ⟨?_, ?_⟩ ?_ fun h2 tk hd' k2 => ?_
      · rw [List.size_toArray, List.size_toArray, ul, vl, Nat.min_self, pl]
      · rintro i key v ⟨e1, e2⟩
        obtain ⟨k, e3, e4⟩ := hpr i key v (by simpa using e1) (by simpa using e2)
        exact ⟨k, e3, kV_is (P := X.prog) (w := X.w) e4⟩
      · rw [List.size_toArray, List.size_toArray, ul, vl, Nat.min_self]
        rw [List.length_map] at z1
        exact z1
      · have kk : ∀ c o, s1.heap.get? c = some o → h2.get? c = some o := fun c o e => by
          have lt : c < s1.heap.objs.size := Heap.lt_size e
          refine k2 c o (fun hm => ?_) (hk c o e)
          simp only [List.mem_cons, List.not_mem_nil, or_false] at hm
          rcases hm with z | z | z | z <;> · rw [z] at lt; exact absurd lt (by first | exact Nat.not_lt.mpr (Nat.le_add_right _ _) | exact Nat.lt_irrefl _)
        have hm : (h'.objs.size == sysModules) = false := beq_eq_false_iff_ne.mpr (Nat.ne_of_gt (Nat.lt_of_lt_of_le I1.big hk5))
        have hlen : (mergeK [] kvs).length ≤ sizeLine := by
          refine Nat.le_trans (length_mergeK kvs []) ?_
          rw [List.length_map] at z1
          rw [List.length_nil, Nat.zero_add]
          exact z1
        exact ⟨.ref h'.objs.size, upd H1 h'.objs.size (.dK (mergeK [] kvs)), I1.laid (t' := tk) kk hk5 (show ObjOk X.prog X.w _ _ _ (.dK (mergeK [] kvs)) from ⟨hlen, hm, merged [] prs, KV.merge rel .nil, hd'⟩), rfl, q _ (I1.hok.fresh hk5)⟩
/-! ### methods by their promise -/
structure Mth (P : Program) (w : World) (K : PySem.W.Frag) (mg : Str → Option Value) (base : Heap) (k : Nat) (C : Addr) (m : Str) (ps : List Str) (sp : Sp) : Prop where
  ex : ∃ f fd, Cls K C ∧ Meth K C m f ∧ Binds K fd ps [] ∧ FnOk P w K mg base CX0 k f fd ps sp
theorem pe_mth {X : Cx} {k : Nat} {C : Addr} {m : Str} {ps : List Str} {sp : Sp} {apos pos : Pos} {o e : Expr} {es : List Expr} {to : TE} {t : TA} {pl : Sem Bool} (F : Mth X.prog X.w X.K X.mg X.base k C m ps sp) (hr : Room k X.A) (he : PE X o to) (ha : PA X (e :: es) t)
    (hst : starEach (e :: es) X.env = (false, eval e X.env) :: starEach es X.env := by rfl) (hpl : (backTo pos (starEach es X.env)).any (·.1) = false := by rfl)
    (ht : eval (.Call (.Attribute o m apos) (e :: es) [] pos) X.env = (do
      let ov ← eval o X.env
      standAt apos.atName
      let (f, first) ← holding [ov] (getMethod ov m pl)
      callWith pos f first (backTo pos (starEach (e :: es) X.env)) (backToKw pos (keywordEach [] X.env))) := by rfl) :
    PE X (.Call (.Attribute o m apos) (e :: es) [] pos) (tMeth C m sp [] E0 to t) := by
  obtain ⟨f, fd, a, b, c, d⟩ := F.ex
  exact pe_meth he a b d hr c .nil pass0 ha hst hpl ht
theorem pe_mth0 {X : Cx} {k : Nat} {C : Addr} {m : Str} {ps : List Str} {sp : Sp} {apos pos : Pos} {o : Expr} {to : TE} {pl : Sem Bool} (F : Mth X.prog X.w X.K X.mg X.base k C m ps sp) (hr : Room k X.A) (he : PE X o to)
    (ht : eval (.Call (.Attribute o m apos) [] [] pos) X.env = (do
      let ov ← eval o X.env
      standAt apos.atName
      let (f, first) ← holding [ov] (getMethod ov m pl)
      callWith pos f first (backTo pos (starEach [] X.env)) (backToKw pos (keywordEach [] X.env))) := by rfl) :
    PE X (.Call (.Attribute o m apos) [] [] pos) (tMeth C m sp [] E0 to tNil) := by
  obtain ⟨f, fd, a, b, c, d⟩ := F.ex
  exact pe_meth0 he a b d hr c .nil pass0 ht
/-! ### what a dict with other keys each merges to -/
theorem eSum_snoc (tb : List (Str × Int)) (p : Str × Int) : eSum (tb ++ [p]) = eSum tb ++ [(Sum.inr p.1, V.int p.2)] := by simp [eSum]
theorem putK_end {kvs : List (Key × V)} {k : Key} {v : V} (h : ∀ p ∈ kvs, p.1 ≠ k) : putK kvs k v = kvs ++ [(k, v)] := by
  unfold putK
  rw [if_neg]
  simp only [List.any_eq_true, decide_eq_true_eq, not_exists, not_and]
  exact h
theorem merge_nd : ∀ (more kvs : List (Key × V)), ((kvs ++ more).map (·.1)).Nodup → mergeK kvs more = kvs ++ more
  | [], kvs, _ => by simp [mergeK]
  | p :: more, kvs, h => by
    have e : kvs ++ p :: more = (kvs ++ [p]) ++ more := by simp
    have hn : ∀ q ∈ kvs, q.1 ≠ p.1 := fun q hq z => by
      rw [List.map_append, List.nodup_append] at h
      exact h.2.2 q.1 (List.mem_map.mpr ⟨q, hq, rfl⟩) p.1 (by simp) z
    have ih := merge_nd more (kvs ++ [p]) (by rw [← e]; exact h)
    show mergeK (putK kvs p.1 p.2) more = _
    rw [putK_end hn, e]
    exact ih
/-- the scope of the comprehension that the i-th statement of a def's body is -/
def lcSc (st : Stmt) (i : Nat) : Scope := match (defBody st).getD i (.Pass ⟨0, 0, 0, 0⟩) with
  | .Return (some (.ListComp _ _ sc _)) _ => sc
  | .Assign _ (.ListComp _ _ sc _) _ => sc
  | _ => default
theorem look_relabel {env : Env} (x : Str) : ∀ names : List (Str × NameKind),
    (names.map fun (n, k) => if (k == NameKind.free && env.scope.kind == .function && env.kindOf n == some .cell) then (n, NameKind.cell) else (n, k)).lookup x =
      (names.lookup x).map fun k => if (k == NameKind.free && env.scope.kind == .function && env.kindOf x == some .cell) then NameKind.cell else k
  | [] => rfl
  | (n, k) :: r => by
    have ih := look_relabel (env := env) x r
    rw [List.map_cons]
    by_cases hx : x = n
    · subst hx
      by_cases hc : (k == NameKind.free && env.scope.kind == .function && env.kindOf x == some .cell) = true
      · simp only [hc, if_true, List.lookup_cons, beq_self_eq_true, Option.map_some]
      · rw [Bool.not_eq_true] at hc
        simp only [hc, List.lookup_cons, beq_self_eq_true, Option.map_some, Bool.false_eq_true, if_false]
    · have hb : (x == n) = false := beq_eq_false_iff_ne.mpr hx
      by_cases hc : (k == NameKind.free && env.scope.kind == .function && env.kindOf n == some .cell) = true
      · simp only [hc, if_true, List.lookup_cons, hb]
        exact ih
      · rw [Bool.not_eq_true] at hc
        simp only [hc, List.lookup_cons, hb, Bool.false_eq_true, if_false]
        exact ih
/-- a block within a block: what it takes from outside the outer one takes too -/
theorem blk_nest {N : List Str} {sc0 scope : Scope} {own : List (Str × Nat)} {cl : List (Str × Addr)} {C : Addr} {env : Env} (h : BlkOk N sc0 scope own) : BlkOk N (compEnvC sc0 cl C env).scope scope own := by
  refine ⟨h.kind, h.uniq, h.ix, fun y hy e => ?_, h.own⟩
  have e2 : (compEnvC sc0 cl C env).scope.names.lookup y.1 = _ := look_relabel (env := env) y.1 sc0.names
  rw [e2]
  rcases h.free y hy e with z | z
  · rw [z]; exact .inl rfl
  · rw [z, Option.map_some]
    by_cases hc : (NameKind.free == NameKind.free && env.scope.kind == .function && env.kindOf y.1 == some .cell) = true
    · rw [if_pos hc]; exact .inl rfl
    · rw [if_neg hc]; exact .inr rfl
theorem notInDK {X : Cx} {K : PySem.W.Frag} (hu : X.A.units + 65 < cLine) (h : X.K = K := by rfl) : OpR X (compareOp .NotIn) (rNotInD K) := h ▸ op_notInD hu
theorem inDK {X : Cx} {K : PySem.W.Frag} (hu : X.A.units + 65 < cLine) (h : X.K = K := by rfl) : OpR X (compareOp .In) (rInD K) := h ▸ op_inD hu
end Pz

namespace Pz
open PySem L2
/-! ### the text of data tells it apart -/
def small (c : Nat) : Bool := decide (97 ≤ c) && decide (c ≤ 122)
mutual
def okT : PyData → Bool
  | .int _ => true
  | .str s => s.cps.toList.all small
  | .list xs => okTs xs
  | .tuple xs => decide (2 ≤ xs.length) && okTs xs
  | .none => false
  | .bool _ => false
  | .dict _ => false
def okTs : List PyData → Bool
  | [] => true
  | x :: xs => okT x && okTs xs
end
def digs (i : Int) : List Nat := (PyData.shown (.int i)).cps.toList
mutual
def txt : PyData → List Nat
  | .int i => digs i
  | .str s => 39 :: (s.cps.toList ++ [39])
  | .list xs => 91 :: txts 93 xs
  | .tuple xs => 40 :: txts 41 xs
  | .none => []
  | .bool _ => []
  | .dict _ => []
def txts (c : Nat) : List PyData → List Nat
  | [] => [c]
  | x :: xs => txt x ++ txtr c xs
def txtr (c : Nat) : List PyData → List Nat
  | [] => [c]
  | x :: xs => 44 :: 32 :: (txt x ++ txtr c xs)
end
def isDig (c : Nat) : Bool := decide (c = 45) || (decide (48 ≤ c) && decide (c ≤ 57))
def delim (r : List Nat) : Prop := ∀ c, r.head? = some c → c = 44 ∨ c = 93 ∨ c = 41
theorem split_by (p : Nat → Bool) : ∀ {l l' r r' : List Nat}, (∀ c ∈ l, p c = true) → (∀ c ∈ l', p c = true) → (∀ c, r.head? = some c → p c = false) → (∀ c, r'.head? = some c → p c = false) → l ++ r = l' ++ r' → l = l' ∧ r = r'
  | [], [], r, r', _, _, _, _, h => ⟨rfl, h⟩
  | [], c :: l', r, r', _, h2, h3, _, h => by
    have e : r = c :: (l' ++ r') := h
    have := h3 c (by rw [e]; rfl)
    rw [h2 c List.mem_cons_self] at this
    cases this
  | c :: l, [], r, r', h1, _, _, h4, h => by
    have e : c :: (l ++ r) = r' := h
    have := h4 c (by rw [← e]; rfl)
    rw [h1 c List.mem_cons_self] at this
    cases this
  | c :: l, c' :: l', r, r', h1, h2, h3, h4, h => by
    injection h with e1 e2
    obtain ⟨a, b⟩ := split_by p (fun x hx => h1 x (List.mem_cons_of_mem _ hx)) (fun x hx => h2 x (List.mem_cons_of_mem _ hx)) h3 h4 e2
    exact ⟨by rw [e1, a], b⟩
/-- what is asked of the digits -/
structure DigOk : Prop where
  all : ∀ i, ∀ c ∈ digs i, isDig c = true
  ne : ∀ i, digs i ≠ []
  inj : ∀ i j, digs i = digs j → i = j
theorem txtr_delim {c : Nat} (hc : c = 93 ∨ c = 41) : ∀ (xs : List PyData) (r : List Nat), delim (txtr c xs ++ r)
  | [], r => fun x hx => by
    have : x = c := by simpa [txtr, eq_comm] using hx
    omega
  | y :: ys, r => fun x hx => by
    have : x = 44 := by simpa [txtr, eq_comm] using hx
    omega
theorem delim_dig {r : List Nat} (h : delim r) : ∀ c, r.head? = some c → isDig c = false := fun c hc => by
  rcases h c hc with z | z | z <;> (subst z; decide)
theorem str_inj {s t : Str} (h : s.cps.toList = t.cps.toList) : s = t := by
  cases s; cases t
  simp only at h
  congr 1
  exact Array.toList_inj.mp h
def kindOf : PyData → Nat
  | .int _ => 0
  | .str _ => 1
  | .list _ => 2
  | .tuple _ => 3
  | _ => 4
/-- how a text begins -/
theorem txt_head (g : DigOk) : ∀ d, okT d = true → ∃ c l, txt d = c :: l ∧ ((kindOf d = 0 ∧ isDig c = true) ∨ (kindOf d = 1 ∧ c = 39) ∨ (kindOf d = 2 ∧ c = 91) ∨ (kindOf d = 3 ∧ c = 40))
  | .int i, _ => by
    simp only [txt]
    cases e : digs i with
    | nil => exact absurd e (g.ne i)
    | cons c l => exact ⟨c, l, rfl, .inl ⟨rfl, g.all i c (by rw [e]; exact List.mem_cons_self)⟩⟩
  | .str s, _ => ⟨39, s.cps.toList ++ [39], by simp only [txt], .inr (.inl ⟨rfl, rfl⟩)⟩
  | .list xs, _ => ⟨91, txts 93 xs, by simp only [txt], .inr (.inr (.inl ⟨rfl, rfl⟩))⟩
  | .tuple xs, _ => ⟨40, txts 41 xs, by simp only [txt], .inr (.inr (.inr ⟨rfl, rfl⟩))⟩
  | .none, h => by simp [okT] at h
  | .bool _, h => by simp [okT] at h
  | .dict _, h => by simp [okT] at h
theorem same_kind (g : DigOk) {d d' : PyData} {r r' : List Nat} (h : okT d = true) (h' : okT d' = true) (e : txt d ++ r = txt d' ++ r') : kindOf d = kindOf d' := by
  obtain ⟨c, l, e1, k1⟩ := txt_head g d h
  obtain ⟨c', l', e2, k2⟩ := txt_head g d' h'
  rw [e1, e2] at e
  injection e with ec _
  subst ec
  rcases k1 with ⟨a, b⟩ | ⟨a, b⟩ | ⟨a, b⟩ | ⟨a, b⟩ <;> rcases k2 with ⟨a', b'⟩ | ⟨a', b'⟩ | ⟨a', b'⟩ | ⟨a', b'⟩ <;>
    first
      | exact a.trans a'.symm
      | (exfalso; subst b; revert b'; decide)
      | (exfalso; subst b'; revert b; decide)
theorem quote_end (r : List Nat) : ∀ c, (39 :: r).head? = some c → small c = false := fun c hc => by
  have : 39 = c := Option.some.inj hc
  subst this
  decide
theorem not_quote {l : List Nat} (h : l.all small = true) : ∀ c ∈ l, small c = true := fun c hc => List.all_eq_true.mp h c hc
mutual
theorem tells (g : DigOk) : ∀ (d d' : PyData) (r r' : List Nat), okT d = true → okT d' = true → delim r → delim r' → txt d ++ r = txt d' ++ r' → d = d' ∧ r = r'
  | .int i, d', r, r', h, h', hr, hr', e => by
    have k := same_kind g h h' e
    cases d' with
    | int j =>
      simp only [txt] at e
      obtain ⟨a, b⟩ := split_by isDig (g.all i) (g.all j) (delim_dig hr) (delim_dig hr') e
      exact ⟨by rw [g.inj i j a], b⟩
    | _ => simp [kindOf] at k
  | .str s, d', r, r', h, h', hr, hr', e => by
    have k := same_kind g h h' e
    cases d' with
    | str t =>
      simp only [txt, List.cons_append, List.append_assoc] at e
      injection e with _ e
      have h1 : s.cps.toList.all small = true := by simpa only [okT] using h
      have h2 : t.cps.toList.all small = true := by simpa only [okT] using h'
      obtain ⟨a, b⟩ := split_by small (not_quote h1) (not_quote h2) (quote_end _) (quote_end _) e
      refine ⟨by rw [str_inj a], ?_⟩
      simpa using b
    | _ => simp [kindOf] at k
  | .list xs, d', r, r', h, h', hr, hr', e => by
    have k := same_kind g h h' e
    cases d' with
    | list ys =>
      simp only [txt, List.cons_append] at e
      injection e with _ e
      obtain ⟨a, b⟩ := tellsS g 93 (.inl rfl) xs ys r r' (by simpa only [okT] using h) (by simpa only [okT] using h') e
      exact ⟨by rw [a], b⟩
    | _ => simp [kindOf] at k
  | .tuple xs, d', r, r', h, h', hr, hr', e => by
    have k := same_kind g h h' e
    cases d' with
    | tuple ys =>
      simp only [txt, List.cons_append] at e
      injection e with _ e
      simp only [okT, Bool.and_eq_true] at h h'
      obtain ⟨a, b⟩ := tellsS g 41 (.inr rfl) xs ys r r' h.2 h'.2 e
      exact ⟨by rw [a], b⟩
    | _ => simp [kindOf] at k
  | .none, _, _, _, h, _, _, _, _ => by simp [okT] at h
  | .bool _, _, _, _, h, _, _, _, _ => by simp [okT] at h
  | .dict _, _, _, _, h, _, _, _, _ => by simp [okT] at h
theorem tellsS (g : DigOk) (c : Nat) (hc : c = 93 ∨ c = 41) : ∀ (xs ys : List PyData) (r r' : List Nat), okTs xs = true → okTs ys = true → txts c xs ++ r = txts c ys ++ r' → xs = ys ∧ r = r'
  | [], [], r, r', _, _, e => by
    simp only [txts, List.cons_append, List.nil_append] at e
    injection e with _ e
    exact ⟨rfl, e⟩
  | [], y :: ys, r, r', _, h', e => by
    simp only [okTs, Bool.and_eq_true] at h'
    obtain ⟨c', l, e1, k⟩ := txt_head g y h'.1
    simp only [txts, List.cons_append, List.nil_append, List.append_assoc, e1] at e
    injection e with ec _
    exfalso
    subst ec
    rcases hc with rfl | rfl <;> rcases k with ⟨_, b⟩ | ⟨_, b⟩ | ⟨_, b⟩ | ⟨_, b⟩ <;> revert b <;> decide
  | x :: xs, [], r, r', h, _, e => by
    simp only [okTs, Bool.and_eq_true] at h
    obtain ⟨c', l, e1, k⟩ := txt_head g x h.1
    simp only [txts, List.cons_append, List.nil_append, List.append_assoc, e1] at e
    injection e with ec _
    exfalso
    subst ec
    rcases hc with rfl | rfl <;> rcases k with ⟨_, b⟩ | ⟨_, b⟩ | ⟨_, b⟩ | ⟨_, b⟩ <;> revert b <;> decide
  | x :: xs, y :: ys, r, r', h, h', e => by
    simp only [okTs, Bool.and_eq_true] at h h'
    simp only [txts, List.append_assoc] at e
    obtain ⟨a, b⟩ := tells g x y _ _ h.1 h'.1 (txtr_delim hc xs r) (txtr_delim hc ys r') e
    obtain ⟨a2, b2⟩ := tellsR g c hc xs ys r r' h.2 h'.2 b
    exact ⟨by rw [a, a2], b2⟩
theorem tellsR (g : DigOk) (c : Nat) (hc : c = 93 ∨ c = 41) : ∀ (xs ys : List PyData) (r r' : List Nat), okTs xs = true → okTs ys = true → txtr c xs ++ r = txtr c ys ++ r' → xs = ys ∧ r = r'
  | [], [], r, r', _, _, e => by
    simp only [txtr, List.cons_append, List.nil_append] at e
    injection e with _ e
    exact ⟨rfl, e⟩
  | [], y :: ys, r, r', _, h', e => by
    simp only [txtr, List.cons_append, List.nil_append] at e
    injection e with ec _
    omega
  | x :: xs, [], r, r', h, _, e => by
    simp only [txtr, List.cons_append, List.nil_append] at e
    injection e with ec _
    omega
  | x :: xs, y :: ys, r, r', h, h', e => by
    simp only [okTs, Bool.and_eq_true] at h h'
    simp only [txtr, List.cons_append, List.append_assoc] at e
    injection e with _ e
    injection e with _ e
    obtain ⟨a, b⟩ := tells g x y _ _ h.1 h'.1 (txtr_delim hc xs r) (txtr_delim hc ys r') e
    obtain ⟨a2, b2⟩ := tellsR g c hc xs ys r r' h.2 h'.2 b
    exact ⟨by rw [a, a2], b2⟩
end
theorem digs_eq (i : Int) : digs i = (toString i).toList.map Char.toNat := by
  unfold digs
  rw [PyData.shown_int]
  show (Str.ofString (toString i)).cps.toList = _
  rw [Str.ofString_eq_toList]
theorem nat_dig (n : Nat) : ∀ c ∈ (Nat.repr n).toList, isDig c.toNat = true := fun c hc => by
  have e : (Nat.repr n).toList = Nat.toDigits 10 n := by simp [Nat.repr]
  rw [e] at hc
  have h := Nat.isDigit_of_mem_toDigits (by decide) (by decide) hc
  unfold isDig
  simp only [Char.isDigit, Bool.and_eq_true, decide_eq_true_eq] at h
  simp only [Bool.or_eq_true, Bool.and_eq_true, decide_eq_true_eq]
  right
  exact ⟨h.1, h.2⟩
theorem digOk : DigOk := by
  refine ⟨fun i c hc => ?_, fun i h => ?_, fun i j h => ?_⟩
  · rw [digs_eq] at hc
    obtain ⟨x, hx, rfl⟩ := List.mem_map.mp hc
    cases i with
    | ofNat n => exact nat_dig n x hx
    | negSucc n =>
      have e : (toString (Int.negSucc n)).toList = '-' :: (Nat.repr (n + 1)).toList := by
        show (("-" : String) ++ Nat.repr (n + 1)).toList = _
        simp
      rw [e] at hx
      rcases List.mem_cons.mp hx with rfl | hx
      · decide
      · exact nat_dig _ x hx
  · rw [digs_eq, List.map_eq_nil_iff] at h
    cases i with
    | ofNat n =>
      have e : (toString (Int.ofNat n)).toList = Nat.toDigits 10 n := by
        show (Nat.repr n).toList = _
        simp [Nat.repr]
      rw [e] at h
      exact Nat.toDigits_ne_nil h
    | negSucc n =>
      have e : (toString (Int.negSucc n)).toList = '-' :: (Nat.repr (n + 1)).toList := by
        show (("-" : String) ++ Nat.repr (n + 1)).toList = _
        simp
      rw [e] at h
      cases h
  · rw [digs_eq, digs_eq] at h
    have h2 : (toString i).toList = (toString j).toList := (List.map_inj_right (f := Char.toNat) fun a b e => by
      exact Char.toNat_inj.mp e).mp h
    exact Int.repr_injective (String.toList_inj.mp h2)

theorem cps_app (x y : Str) : (x ++ y).cps.toList = x.cps.toList ++ y.cps.toList := by
  show (x.cps ++ y.cps).toList = _
  exact Array.toList_append
theorem repr_small {s : Str} (h : s.cps.toList.all small = true) : (reprText s).cps.toList = 39 :: (s.cps.toList ++ [39]) := by
  have hs : ∀ c ∈ s.cps.toList, small c = true := not_quote h
  have n39 : s.cps.contains 39 = false := by
    rw [← Bool.not_eq_true, Array.contains_iff_mem]
    intro hm
    have := hs 39 (Array.mem_toList_iff.mpr hm)
    exact absurd this (by decide)
  have q : reprQuote s = 39 := by
    unfold reprQuote
    rw [n39]; rfl
  have ch : ∀ c, small c = true → Builtin.Str.reprChar 39 c = [c] := fun c hc => by
    have key : ∀ c < 123, small c = true → Builtin.Str.reprChar 39 c = [c] := by decide +kernel
    have : c < 123 := by
      unfold small at hc
      simp only [Bool.and_eq_true, decide_eq_true_eq] at hc
      omega
    exact key c this hc
  unfold reprText
  rw [q, ← Array.foldl_toList]
  have fold : ∀ (l : List Nat) (acc : Array Nat), (∀ c ∈ l, small c = true) → (l.foldl (fun out c => out ++ (Builtin.Str.reprChar 39 c).toArray) acc).toList = acc.toList ++ l := by
    intro l
    induction l with
    | nil => intro acc _; simp
    | cons c l ih =>
      intro acc hl
      rw [List.foldl_cons, ih _ (fun x hx => hl x (List.mem_cons_of_mem _ hx)), ch c (hl c List.mem_cons_self)]
      simp
  show ((s.cps.toList.foldl (fun out c => out ++ (Builtin.Str.reprChar 39 c).toArray) #[39]).push 39).toList = _
  rw [Array.toList_push, fold _ _ hs]
  rfl
theorem txtr_eq (c : Nat) : ∀ xs : List PyData, txtr c xs = (xs.flatMap fun x => 44 :: 32 :: txt x) ++ [c]
  | [] => by simp [txtr]
  | x :: xs => by simp [txtr, txtr_eq c xs]
theorem from_cps : ∀ (ts : List Str) (k : Nat) (acc : Str), (textFrom (k + 1) acc ts).cps.toList = acc.cps.toList ++ ts.flatMap fun t => 44 :: 32 :: t.cps.toList
  | [], k, acc => by simp [textFrom]
  | t :: ts, k, acc => by
    unfold textFrom
    rw [from_cps ts, cps_app, cps_app]
    rw [if_pos (by omega)]
    have e : ((", " : String) : Str).cps.toList = [44, 32] := by decide +kernel
    rw [e]
    simp
theorem join_cps : ∀ (t : Str) (ts : List Str), (Str.join ", " (t :: ts)).cps.toList = t.cps.toList ++ ts.flatMap fun t => 44 :: 32 :: t.cps.toList
  | t, [] => by simp [Str.join]
  | t, u :: ts => by
    have ih := join_cps u ts
    show (t ++ ", " ++ Str.join ", " (u :: ts)).cps.toList = _
    rw [cps_app, cps_app, ih]
    have e : ((", " : String) : Str).cps.toList = [44, 32] := by decide +kernel
    rw [e]
    simp
theorem list_cps (ts : List Str) : (listText ts).cps.toList = 91 :: ((match ts with | [] => [] | t :: ts => t.cps.toList ++ ts.flatMap fun t => 44 :: 32 :: t.cps.toList) ++ [93]) := by
  unfold listText
  rw [cps_app]
  have e : (("]" : String) : Str).cps.toList = [93] := by decide +kernel
  have e2 : (("[" : String) : Str).cps.toList = [91] := by decide +kernel
  rw [e]
  cases ts with
  | nil =>
    unfold textFrom
    rw [e2]; rfl
  | cons t ts =>
    unfold textFrom
    rw [from_cps, cps_app, cps_app, e2]
    have e3 : ((if 0 > 0 then ", " else "" : String) : Str).cps.toList = [] := by decide +kernel
    rw [e3]
    simp
theorem tup_cps (t u : Str) (ts : List Str) : (tupleText (t :: u :: ts)).cps.toList = 40 :: (t.cps.toList ++ ((u :: ts).flatMap fun t => 44 :: 32 :: t.cps.toList) ++ [41]) := by
  unfold tupleText
  rw [cps_app, cps_app, join_cps]
  have e : (("(" : String) : Str).cps.toList = [40] := by decide +kernel
  have e2 : ((")" : String) : Str).cps.toList = [41] := by decide +kernel
  rw [if_neg (by simp), e, e2]
  simp
theorem flat_map {xs : List PyData} (h : ∀ x ∈ xs, (PyData.shown x).cps.toList = txt x) : ((PyData.shownAll xs).flatMap fun t => 44 :: 32 :: t.cps.toList) = xs.flatMap fun x => 44 :: 32 :: txt x := by
  induction xs with
  | nil => simp [PyData.shownAll_nil]
  | cons x xs ih =>
    rw [PyData.shownAll_cons, List.flatMap_cons, List.flatMap_cons, ih (fun y hy => h y (List.mem_cons_of_mem _ hy)), h x List.mem_cons_self]
mutual
theorem shown_txt : ∀ d, okT d = true → (PyData.shown d).cps.toList = txt d
  | .int i, _ => by simp only [txt]; rfl
  | .str s, h => by
    rw [PyData.shown_str]
    simp only [txt]
    exact repr_small (by simpa only [okT] using h)
  | .list xs, h => by
    have ih := shown_txts xs (by simpa only [okT] using h)
    show (listText (PyData.shownAll xs)).cps.toList = _
    rw [list_cps]
    simp only [txt]
    cases xs with
    | nil => rfl
    | cons x xs =>
      rw [PyData.shownAll_cons]
      simp only [txts]
      rw [ih x List.mem_cons_self, flat_map fun y hy => ih y (List.mem_cons_of_mem _ hy), txtr_eq, List.append_assoc]
  | .tuple xs, h => by
    simp only [okT, Bool.and_eq_true, decide_eq_true_eq] at h
    have ih := shown_txts xs h.2
    show (tupleText (PyData.shownAll xs)).cps.toList = _
    match xs, h, ih with
    | [], h, _ => exact absurd h.1 (by decide)
    | [x], h, _ => exact absurd h.1 (by simp)
    | x :: y :: xs, h, ih =>
      rw [PyData.shownAll_cons, PyData.shownAll_cons, tup_cps, ← PyData.shownAll_cons]
      simp only [txt, txts]
      rw [ih x List.mem_cons_self, flat_map fun y hy => ih y (List.mem_cons_of_mem _ hy), txtr_eq, List.append_assoc]
  | .none, h => by simp [okT] at h
  | .bool _, h => by simp [okT] at h
  | .dict _, h => by simp [okT] at h
theorem shown_txts : ∀ xs, okTs xs = true → ∀ x ∈ xs, (PyData.shown x).cps.toList = txt x
  | [], _, x, hx => nomatch hx
  | y :: ys, h, x, hx => by
    simp only [okTs, Bool.and_eq_true] at h
    rcases List.mem_cons.mp hx with e | hx
    · rw [e]; exact shown_txt y h.1
    · exact shown_txts ys h.2 x hx
end
/-- the text tells data apart -/
theorem shown_inj {d d' : PyData} (h : okT d = true) (h' : okT d' = true) (e : PyData.shown d = PyData.shown d') : d = d' := by
  have e2 : txt d ++ [] = txt d' ++ [] := by rw [← shown_txt d h, ← shown_txt d' h', e]
  exact (tells digOk d d' [] [] h h' (fun c hc => nomatch hc) (fun c hc => nomatch hc) e2).1
end Pz

namespace Pz
open PySem PySem.Spec PyProof.Rows L2
/-! ### try with several clauses, each with the same name -/
abbrev Clause := Value × (Addr → Value → Option Addr → TS)
/-- behind a clause its name is gone -/
def gone (i : Nat) (D : Ends) : Ends := { nx := fun σ' H' => D.nx (σ'.set i none) H', rt := D.rt, bk := fun σ' H' => D.bk (σ'.set i none) H', ct := fun σ' H' => D.ct (σ'.set i none) H' }
def wAll (K : PySem.W.Frag) (i : Nat) (Wo : WX) (D : Ends) : List Clause → WX
  | [] => Wo
  | u :: r => fun cls d σ H => ∃ b, PySem.W.exmOne K cls u.1 = some b ∧ (b = true → ∀ a, H a = none → u.2 a cls d (gone i D) (σ.set i (some (.ref a))) H) ∧ (b = false → wAll K i Wo D r cls d σ H)
inductive Clauses (X : Cx) (n : Str) : List ExceptHandler → List Clause → Prop
  | nil : Clauses X n [] []
  | cons {y : Str} {c : Value} {ts : Addr → Value → Option Addr → TS} {st : Stmt} {sts : List Stmt} {p1 p2 : Pos} {hs : List ExceptHandler} {l : List Clause} (hc : Names X y c)
      (body : ∀ (a : Addr) (ob : Obj) (cls : Value) (d : Option Addr) (more : List (Addr × Obj)), Zc cls d ob → (∃ vs, ob.data = .fields vs) → PSs (X.suite a ((a, ob) :: more)) (st :: sts) (ts a cls d)) (r : Clauses X n hs l) :
      Clauses X n (.ExceptHandler (some (.Name y p1)) (some n) (st :: sts) p2 :: hs) ((c, ts) :: l)
section
variable {X : Cx} {bd : List Stmt} {h1 : ExceptHandler} {hs : List ExceptHandler} {l : List Clause} {p : Pos} {tb : WX → TS} {Wo : WX} {n : Str} {i : Nat}
theorem ps_try_all (q1 : X.stack = X.env :: X.outer) (q2 : X.env.frame = some X.env.locals) (q3 : X.N.Nodup) (q4 : X.N[i]? = some n) (q5 : X.env.kindOf n = some .local) (tk : Takes X Wo)
    (hb : ∀ (W : WX) (more : List (Addr × Obj)) (xe : Value → Shared → Prop), Takes (X.tr more xe) W → PassesOwn (model X.prog X.w) X.A X.env xe → PSs (X.tr more xe) bd (tb W))
    (hh : Clauses X n (h1 :: hs) l) : PS X (.Try bd (h1 :: hs) [] [] p) (fun D σ H => tb (wAll X.K i Wo D l) D σ H) := by
  constructor
  intro pins s σ H D I h
  have okX := I.ok
  have frX : X.A.frames = some (X.env :: X.outer) := okX.frames.trans (by rw [q1])
  have locX : Loc X.env.scope n := Or.inl q5
  apply wpAny_Try_except
  let xe : Value → Shared → Prop := fun ex s1 => wpAny (model X.prog X.w) X.A (noteFrame ex X.env) (fun _ s2 => wpAny (model X.prog X.w) X.A (setFlight ex none) (fun _ s3 =>
      wpAny (model X.prog X.w) X.A (handleBy ex X.env (h1 :: hs)) (SP X pins D) X.xe s3) X.xe s2) X.xe s1
  have caught : Takes (X.tr (X.pn ++ pins) xe) (wAll X.K i Wo D l) := by
    rintro u s' ⟨a, B, sI, pins', σ', H', cls, d, rfl, J', nb, up, sky, na, os, ag, w⟩
    have J : Inv X pins σ' H' sI := J'.ofTry okX
    have sk : Sky B (X.env :: X.outer) a (Zc cls d) X.env.locals s'.heap := q1 ▸ sky
    show wpAny (model X.prog X.w) X.A (noteFrame (.ref a) X.env) _ _ _
    apply Sky.land Zc.steady frX q2 sk
    intro hp3 f3 u3
    have K3 : Inv X pins σ' H' { s' with heap := hp3 } := J.landed nb f3.1 (up.trans u3) os ag
    obtain ⟨ob, vs, eo, ez, ed⟩ := f3.there
    have apart : a ∉ frs (X.env :: X.outer) := by
      intro hm
      obtain ⟨_, o2, e2, nf⟩ := f3.2.2.1.mem hm
      rw [eo] at e2
      cases e2
      exact nf _ ed
    have aL : a ≠ X.env.locals := by
      intro z
      exact apart (List.mem_filterMap.mpr ⟨X.env, List.mem_cons_self, by rw [q2, z]⟩)
    have aF : a ∉ X.fs := by
      intro hm
      obtain ⟨e3, he3, w3⟩ := List.mem_filterMap.mp hm
      exact apart (List.mem_filterMap.mpr ⟨e3, List.mem_cons_of_mem _ he3, w3⟩)
    have T3 := K3.suite eo ed na aL aF
    have look : PySem.W.Looks (model X.prog X.w) hp3 (typeOf (.ref a)) cls := fun A Q E t k z => wpAny_typeOf_ref (k _ _ eo) (ez.1 ▸ z)
    have walk : ∀ {hs' : List ExceptHandler} {l' : List Clause}, Clauses X n hs' l' → wAll X.K i Wo D l' cls d σ' H' → wpAny (model X.prog X.w) X.A (handleBy (.ref a) X.env hs') (SP X pins D) X.xe { s' with heap := hp3 } := by
      intro hs' l' cl
      induction cl with
      | nil =>
        intro ww
        apply wpAny_handleBy_nil
        obtain ⟨_, _, _, o5, v5, T5, oT5, t5, g1, g2, g3, g4, g5⟩ := id f3
        unfold PySem.passOn
        apply wpAny_bind
        apply wpAny_field g1 g3 g4
        rw [if_neg (by simp : ¬ ((Value.ref T5 == Value.none) = true))]
        have up2 : wpAny (model X.prog X.w) X.A (setFlight (.ref a) X.env.frame) (fun _ s4 => wpAny (model X.prog X.w) X.A (throw (.ref a) : Sem Flow) (SP X pins D) X.xe s4) X.xe { s' with heap := hp3 } := by
          rw [q2]
          apply HandSPX.setFlight_upZ f3
          intro hp4 f4 u4
          exact wpAny_throw (tk _ _ ⟨a, B, sI, pins, σ', H', cls, d, rfl, J, nb, (up.trans u3).trans u4, .inr (.inr (q1.symm ▸ f4)), na, os, ag, ww⟩)
        first
          | exact wpAny_bind (wpAny_pure (wpAny_bind up2))
          | exact wpAny_bind up2
      | @cons y c ts st sts p1 p2 hs2 l2 hc body r ih =>
        rintro ⟨b, eb, yes, no⟩
        apply wpAny_handleBy_cons _ (by intro z; cases z)
        apply codeAny_handlers_test
        have ask : ∀ {Q E : Value → Shared → Prop}, Q c { s' with heap := hp3 } → wpAny (model X.prog X.w) (X.A.mark (some (.ref a))) (eval (.Name y p1) X.env) Q E { s' with heap := hp3 } := by
          intro Q E z
          obtain ⟨hg, hd, hm | ⟨hm, hv, hn⟩⟩ := hc
          · exact ld_glob (X := X.suite a ((a, ob) :: (X.pn ++ pins))) T3 hg hm z hd
          · exact ld_blt (X := X.suite a ((a, ob) :: (X.pn ++ pins))) T3 hg hm hv z hn hd
        apply ask
        apply (PySem.W.exm_one (M := model X.prog X.w) K3.kIn look eb).here
        cases b with
        | false => exact ih (no rfl)
        | true =>
          apply codeAny_handlers_suite_as
          apply HandSPX.lands_againZ f3
          intro hp4 f4 u4
          have K4 : Inv X pins σ' H' { s' with heap := hp4 } := J.landed nb f4.1 ((up.trans u3).trans u4) os ag
          obtain ⟨o4, v4, eo4, ez4, ed4⟩ := f4.there
          have T4 := K4.suite eo4 ed4 na aL aF
          refine store_ok (X := X.suite a ((a, o4) :: (X.pn ++ pins))) (v := .ref a) T4 q3 q4 locX rfl ?_ (.inr q5)
          intro s5 T5
          refine wpAny_mono ((body a o4 cls d (X.pn ++ pins) ez4 ⟨_, ed4⟩).run [] s5 _ H' _ T5 (yes rfl a na)) ?_ (fun _ _ z => z.elim)
          intro f s6 hsp
          have close : ∀ {σ6 : L2.St} {H6 : Hp} {Q : Shared → Prop}, Inv (X.suite a ((a, o4) :: (X.pn ++ pins))) [] σ6 H6 s6 → (∀ s7, Inv X pins (σ6.set i none) H6 s7 → Q s7) →
              wpAny (model X.prog X.w) X.A (do bindName X.env n .none; unbindBehindTheSuite X.env n p2) (fun _ s7 => Q s7) X.xe s6 := by
            intro σ6 H6 Q U hq
            exact gone_ok (U.unsuite okX) q3 q4 q5 hq
          match f, hsp with
          | .next, ⟨σ6, H6, U, z⟩ => exact close U fun _ V => ⟨_, _, V, z⟩
          | .brk, ⟨σ6, H6, U, z⟩ => exact close U fun _ V => ⟨_, _, V, z⟩
          | .cont, ⟨σ6, H6, U, z⟩ => exact close U fun _ V => ⟨_, _, V, z⟩
          | .ret _, ⟨v6, σ6, H6, U, r6, z⟩ => exact close U fun _ V => ⟨_, _, _, V, r6, z⟩
    exact walk hh w
  refine wpAny_mono ((hb (wAll X.K i Wo D l) (X.pn ++ pins) xe caught PassesOwn.looking).run [] s σ H D (I.toTry _) h) ?_ (fun _ _ z => z)
  intro f s1 hsp
  match f, hsp with
  | .next, ⟨σ', H', V, z⟩ => exact wpAny_execs_nil ⟨σ', H', V.ofTry okX, z⟩
  | .brk, ⟨σ', H', V, z⟩ => exact ⟨σ', H', V.ofTry okX, z⟩
  | .cont, ⟨σ', H', V, z⟩ => exact ⟨σ', H', V.ofTry okX, z⟩
  | .ret _, ⟨v, σ', H', V, r, z⟩ => exact ⟨v, σ', H', V.ofTry okX, r, z⟩
end
end Pz

namespace Pz
open PySem PySem.Spec PyProof.Rows L2
/-! ### min of a list of texts -/
def leS (a b : Str) : Prop := a.cps.toList ≤ b.cps.toList
theorem leS_refl (a : Str) : leS a a := List.le_refl _
theorem leS_trans {a b c : Str} (h : leS a b) (h' : leS b c) : leS a c := List.le_trans h h'
theorem leS_anti {a b : Str} (h : leS a b) (h' : leS b a) : a = b := str_inj (List.le_antisymm h h')
theorem leS_of_not {a b : Str} (h : ¬ b.cps.toList < a.cps.toList) : leS a b := h
theorem leS_of_lt {a b : Str} (h : a.cps.toList < b.cps.toList) : leS a b := List.le_of_lt h
theorem rising_le : ∀ (r : List Str) (p : Str), risingS p r = true → ∀ y ∈ r, leS p y
  | [], _, _, _, h => nomatch h
  | x :: r, p, h, y, hy => by
    unfold risingS at h
    simp only [Bool.and_eq_true] at h
    have h1 : leS p x := by
      have h0 := h.1
      rw [ltCps_eq] at h0
      exact leS_of_not (by simpa using h0)
    rcases List.mem_cons.mp hy with rfl | hy
    · exact h1
    · exact leS_trans h1 (rising_le r x h.2 y hy)
theorem sorted_le : ∀ {ys : List Str}, sortedS ys = true → ys.Pairwise leS
  | [], _ => .nil
  | x :: r, h => by
    have h' : risingS x r = true := h
    refine .cons (rising_le r x h') (sorted_le ?_)
    cases r with
    | nil => rfl
    | cons y r =>
      unfold risingS at h'
      simp only [Bool.and_eq_true] at h'
      exact h'.2
theorem best_str (t : Nat → Str) : ∀ k, argBest (fun i j => decide ((t i).cps.toList < (t j).cps.toList)) k ≤ k ∧ ∀ j, j ≤ k → leS (t (argBest (fun i j => decide ((t i).cps.toList < (t j).cps.toList)) k)) (t j)
  | 0 => ⟨Nat.le_refl _, fun j hj => by
    have : j = 0 := by omega
    rw [this]; exact leS_refl _⟩
  | k + 1 => by
    obtain ⟨h1, h2⟩ := best_str t k
    unfold argBest
    by_cases c : (t (k + 1)).cps.toList < (t (argBest (fun i j => decide ((t i).cps.toList < (t j).cps.toList)) k)).cps.toList
    · rw [if_pos (decide_eq_true c)]
      refine ⟨Nat.le_refl _, fun j hj => ?_⟩
      by_cases e : j = k + 1
      · rw [e]; exact leS_refl _
      · exact leS_trans (leS_of_lt c) (h2 j (by omega))
    · rw [if_neg (by simpa using c)]
      refine ⟨by omega, fun j hj => ?_⟩
      by_cases e : j = k + 1
      · rw [e]; exact leS_of_not c
      · exact h2 j (by omega)
theorem strs_at : ∀ {us : List Value} {xs : List Str}, StrsAre us xs → ∀ (i : Nat) (v : Value), us[i]? = some v → ∃ x t, xs[i]? = some x ∧ v = .str x t
  | _, _, .nil, i, v, h => by simp at h
  | _, _, .cons x t r, i, v, h => by
    cases i with
    | zero =>
      have e := Option.some.inj h
      exact ⟨x, t, rfl, e.symm⟩
    | succ i => exact strs_at r i v (by simpa using h)
theorem StrsAre.len : ∀ {us : List Value} {xs : List Str}, StrsAre us xs → us.length = xs.length
  | _, _, .nil => rfl
  | _, _, .cons x t r => by simp [StrsAre.len r]
def rMinS (K : PySem.W.Frag) : List V → Hp → VK → Prop := fun vs H Q => ∃ (a : Addr) (xs : List Str), vs = [V.ref a] ∧ SqL K H a (xs.map V.str) ∧ 0 < xs.length ∧ ∀ m, m ∈ xs → (∀ y ∈ xs, leS m y) → Q (.str m) H
theorem cr_minS {X : Cx} (hc : X.calm = true) : CallR X (.builtin "min") (rMinS X.K) := by
  intro pins s σ H vs us Q I r h
  obtain ⟨a, xs, rfl, hs, hne, q⟩ := h
  obtain ⟨its, rv, hl, _⟩ := I.list hs
  rw [Vals.ref1 r]
  have sa := rv.strs
  have hlen := StrsAre.len sa
  have hh := I.ok.hd hc
  have hL := hl.isList
  have lt : a < s.heap.objs.size := hl.lt
  show wpAny (model X.prog X.w) X.A (call (.builtin "min") [.ref a]) _ _ s
  refine call_min_walk (wpAny_pyIter_list hL ?_)
  let t : Nat → Str := fun i => (xs[i]?).getD Str.empty
  have cmp : CmpOf X.prog X.w X.A.in1 .Lt (fun i v => its.toArray[i]? = some v) (fun i j => decide ((t i).cps.toList < (t j).cps.toList)) := by
    intro i j vi vj s2 Q2 E2 hi hj hq
    obtain ⟨x, u, ex, rfl⟩ := strs_at sa i vi (by simpa using hi)
    obtain ⟨y, u2, ey, rfl⟩ := strs_at sa j vj (by simpa using hj)
    have e1 : t i = x := by show (xs[i]?).getD _ = x; rw [ex]; rfl
    have e2 : t j = y := by show (xs[j]?).getD _ = y; rw [ey]; rfl
    have hq' : Q2 (.bool (decide ((t i).cps.toList < (t j).cps.toList))) s2 := hq
    rw [e1, e2] at hq'
    exact PyProof.Rows.lt_str hq'
  refine ⟨_, _, _, _, _, _, _, rfl, Walks.list (A := X.A.in1) hh _ a (Nat.ne_of_lt lt) its.toArray, ⟨⟨_, Heap.get?_push_size _ rfl, rfl, rfl⟩, hL.push _⟩, ?_, by simp; omega, cmp, fun v h' tk hP hk => ?_⟩
  · intro b hb
    show b < (s.heap.push _).objs.size
    rw [Heap.size_push]
    simp only [List.mem_cons, List.not_mem_nil, or_false] at hb
    rcases hb with rfl | rfl
    · exact Nat.lt_succ_self _
    · exact Nat.lt_succ_of_lt lt
  · obtain ⟨b1, b2⟩ := best_str t (its.toArray.size - 1)
    have hP' := hP
    rw [List.getElem?_toArray] at hP'
    obtain ⟨x, u, ex, rfl⟩ := strs_at sa _ v hP'
    have e1 : t (argBest (fun i j => decide ((t i).cps.toList < (t j).cps.toList)) (its.toArray.size - 1)) = x := by show (xs[_]?).getD _ = x; rw [ex]; rfl
    rw [e1] at b2
    refine ⟨.str x, H, I.kept (old_kept hk), ⟨u, rfl⟩, q x (List.mem_of_getElem? ex) fun y hy => ?_⟩
    obtain ⟨j, hj, ej⟩ := List.mem_iff_getElem.mp hy
    have e2 : t j = y := by show (xs[j]?).getD _ = y; rw [List.getElem?_eq_getElem hj, ej]; rfl
    rw [← e2]
    exact b2 j (by simp; omega)
/-! ### defs and methods that raise, by their promise -/
section
variable {P : Program} {w : World} {K : PySem.W.Frag} {mg : Str → Option Value} {base : Heap}
structure FnX (P : Program) (w : World) (K : PySem.W.Frag) (mg : Str → Option Value) (base : Heap) (k : Nat) (x : Str) (ps : List Str) (sp : Sp) : Prop where
  ex : ∃ f fd, mg x = some (.ref f) ∧ PySem.W.keepIn K (.ref f) = true ∧ Binds K fd ps [] ∧ FnOk P w K mg base (L2.CX P w) k f fd ps sp
structure MthX (P : Program) (w : World) (K : PySem.W.Frag) (mg : Str → Option Value) (base : Heap) (k : Nat) (C : Addr) (m : Str) (ps : List Str) (sp : Sp) : Prop where
  ex : ∃ f fd, Cls K C ∧ Meth K C m f ∧ Binds K fd ps [] ∧ FnOk P w K mg base (L2.CX P w) k f fd ps sp
theorem DefAt.fnX {x : Str} {st : Stmt} {N ps : List Str} {k : Nat} {sp : Sp} (D : DefAt K mg x st ps) (S : FnScope N ps (defScope st)) (len : ∀ vs H Q E, sp vs H Q E → vs.length = ps.length)
    (hbody : ∀ (cdv : Value) (A : Around) (outer : List Env) (f : Addr) (s : Shared) (H : Hp) (vs : List V) (Q : VK) (E : XK), Room k (A.deeper (envOfC x (defScope st) s.heap.objs.size f cdv)) → sp vs H Q E →
      ∃ t, PSs (cxOf (L2.CX P w) P w K mg base N x (defScope st) f cdv A outer s H E) (defBody st) t ∧ t { nx := fun _ H' => Q .non H', rt := Q } (start N vs) H) : FnX P w K mg base (k + 1) x ps sp := by
  obtain ⟨f, fd, hm, F, hb⟩ := D.ex
  exact ⟨f, fd, hm, F.kp, hb, F.okX S len fun cdv A outer s H vs Q E hr h => hbody cdv A outer f s H vs Q E hr h⟩
theorem pe_fnX {X : Cx} {k : Nat} {x : Str} {ps : List Str} {sp : Sp} {p pos : Pos} {e : Expr} {es : List Expr} {t : TA} {E : XK} (F : FnX X.prog X.w X.K X.mg X.base k x ps sp) (hr : Room k X.A) (hg : Gl X x) (hx : Passes (L2.CX X.prog X.w) X E)
    (ha : PA X (e :: es) t) (hdb : (x == ("__debug__" : Str)) = false := by decide) (he : starEach (e :: es) X.env = (false, eval e X.env) :: starEach es X.env := by rfl)
    (hpl : (backTo pos (starEach es X.env)).any (·.1) = false := by rfl) : PE X (.Call (.Name x p) (e :: es) [] pos) (tCall sp [] E t) := by
  obtain ⟨f, fd, a, b, c, d⟩ := F.ex
  exact pe_call d hr hg a b c .nil hx ha hdb he hpl
theorem pe_mthX {X : Cx} {k : Nat} {C : Addr} {m : Str} {ps : List Str} {sp : Sp} {apos pos : Pos} {o e : Expr} {es : List Expr} {to : TE} {t : TA} {pl : Sem Bool} {E : XK} (F : MthX X.prog X.w X.K X.mg X.base k C m ps sp) (hr : Room k X.A) (hx : Passes (L2.CX X.prog X.w) X E)
    (he : PE X o to) (ha : PA X (e :: es) t)
    (hst : starEach (e :: es) X.env = (false, eval e X.env) :: starEach es X.env := by rfl) (hpl : (backTo pos (starEach es X.env)).any (·.1) = false := by rfl)
    (ht : eval (.Call (.Attribute o m apos) (e :: es) [] pos) X.env = (do
      let ov ← eval o X.env
      standAt apos.atName
      let (f, first) ← holding [ov] (getMethod ov m pl)
      callWith pos f first (backTo pos (starEach (e :: es) X.env)) (backToKw pos (keywordEach [] X.env))) := by rfl) :
    PE X (.Call (.Attribute o m apos) (e :: es) [] pos) (tMeth C m sp [] E to t) := by
  obtain ⟨f, fd, a, b, c, d⟩ := F.ex
  exact pe_meth he a b d hr c .nil hx ha hst hpl ht
/-- a def within a try -/
theorem pe_fnS {X : Cx} {k : Nat} {x : Str} {ps : List Str} {sp : Sp} {p pos : Pos} {e : Expr} {es : List Expr} {t : TA} {W : WX} (F : FnX X.prog X.w X.K X.mg X.base k x ps sp) (hr : Room k X.A) (tk : Takes X W) (hg : Gl X x)
    (ha : PA X (e :: es) t) (hdb : (x == ("__debug__" : Str)) = false := by decide) (he : starEach (e :: es) X.env = (false, eval e X.env) :: starEach es X.env := by rfl)
    (hpl : (backTo pos (starEach es X.env)).any (·.1) = false := by rfl) : PE X (.Call (.Name x p) (e :: es) [] pos) (tCallS sp (WE W) t) := by
  obtain ⟨f, fd, a, b, c, d⟩ := F.ex
  exact pe_callS d hr hg a b c (fun σ => passAt tk σ) ha hdb he hpl
/-- a method within a try: what it raises, at the slots as they stand -/
def tMthS (C : Addr) (m : Str) (sp : Sp) (E : L2.St → XK) (to : TE) (t : TA) : TE := fun σ H Q => to σ H fun x H1 => ∃ a dx fs, x = .ref a ∧ H1 a = some (.ins C dx fs) ∧ fs.lookup m = none ∧ t σ H1 fun vs H2 => sp (x :: vs) H2 Q (E σ)
theorem pe_mthS {X : Cx} {k : Nat} {C : Addr} {m : Str} {ps : List Str} {sp : Sp} {apos pos : Pos} {o e : Expr} {es : List Expr} {to : TE} {t : TA} {pl : Sem Bool} {W : WX} (F : MthX X.prog X.w X.K X.mg X.base k C m ps sp) (hr : Room k X.A) (tk : Takes X W)
    (he : PE X o to) (ha : PA X (e :: es) t)
    (hst : starEach (e :: es) X.env = (false, eval e X.env) :: starEach es X.env := by rfl) (hpl : (backTo pos (starEach es X.env)).any (·.1) = false := by rfl)
    (ht : eval (.Call (.Attribute o m apos) (e :: es) [] pos) X.env = (do
      let ov ← eval o X.env
      standAt apos.atName
      let (f, first) ← holding [ov] (getMethod ov m pl)
      callWith pos f first (backTo pos (starEach (e :: es) X.env)) (backToKw pos (keywordEach [] X.env))) := by rfl) :
    PE X (.Call (.Attribute o m apos) (e :: es) [] pos) (tMthS C m sp (WE W) to t) := by
  obtain ⟨f, fd, hc, hm, hb, hf⟩ := F.ex
  constructor
  intro pins s σ H Q I h
  apply PySem.W.methodCall_KW (pl := pl) _ ht
  refine thn (he.run pins s σ H _ I h) ?_
  rintro u s1 ⟨x, H1, I1, rx, a, dx, fs, rfl, ea, l, q⟩
  cases rx
  apply getmeth_ok I1 ea hc hm l
  apply PySem.W.callWith_K (first := [.ref a]) (h₀ := X.base) I.ok.mod.kin hm.kp _ hst hpl
  refine thn (ha.run pos pins s1 σ H1 _ I1 q) ?_
  rintro us s2 ⟨vs, H2, I2, r, q2⟩
  exact ⟨I2.kIn, run_fnS (us := .ref a :: us) (vs := .ref a :: vs) hf hr hb (passAt tk σ) I2 (.cons rfl r) q2⟩
end
end Pz
namespace Pz
open PySem L2
def emp : Hp := fun _ => none
theorem emp_same (H : Hp) : Same emp H := fun b o e => nomatch e
theorem pe_joinK {X : Cx} {K : PySem.W.Frag} {o e : Expr} {to te : TE} {apos pos : Pos} (ho : PE X o to) (he : PE X e te) (hs : starEach [e] X.env = [(false, eval e X.env)] := by rfl) (hbase : attributeBase o "join" X.env (eval o X.env) = eval o X.env := by rfl) (hline : (apos.endLine == pos.line) = true := by rfl) (h : X.K = K := by rfl) :
    PE X (.Call (.Attribute o "join" apos) [e] [] pos) (tM1 (fun x xs H Q => ∃ a p, ∃ ys : List Str, x = .str a ∧ xs = [.ref p] ∧ (SqL K H p (ys.map V.str) ∨ SqT K H p (ys.map V.str)) ∧
      (ys.map (·.length)).sum + ys.length * a.length ≤ 16777216 ∧ Q (.str (Txt.join a ys)) H) to te) := h ▸ pe_join ho he hs hbase hline
end Pz

namespace Pz
open PySem PySem.W PySem.Spec PyProof.Rows L2
/-! ### a, b, *rest = a list -/
section
variable {prog : Program} {w : World} {A : Around} {E : Value → Shared → Prop} {s : Shared}
theorem star_list {l : Addr} {us : Array Value} {i : Nat} {Q : List Value → Shared → Prop} (hl : s.heap.IsList l us) (hh : A.handled = none) (hi : i ≤ us.size) (hz : us.size ≤ 16384)
    (k : ∀ (h' : Heap) (tk : Nat), (∀ b o, s.heap.get? b = some o → h'.get? b = some o) →
      Q (us.toList.take i ++ [.ref h'.objs.size]) { s with heap := h'.push { cls := .type "list", data := .seq (us.toList.drop i).toArray }, toks := tk }) :
    wpAny (model prog w) A (unpackItems (.ref l) (i + 1) (some i)) Q E s := by
  obtain ⟨o0, ho0, _⟩ := id hl
  have old := Heap.lt_size ho0
  have ne : l ≠ s.heap.objs.size := Nat.ne_of_lt old
  have sz : us.toList.length = us.size := Array.length_toList
  unfold unpackItems notIterableAtAll
  refine wpAny_bind (wpAny_bind (wpAny_specialOf hl.typeIs slot_list_iter.lookup (wpAny_pure ?_)))
  rw [if_neg (by simp)]
  refine wpAny_bind (wpAny_holding (wpAny_pyIter_list hl ?_))
  refine wpAny_bind (wpAny_holding (kun_draw ne i 0 _ _ ⟨_, Heap.get?_push_size _ rfl, rfl, rfl⟩ (hl.push _) (by omega) fun h1 it1 sb1 => ?_))
  rw [Nat.zero_add] at it1
  have l1 : h1.IsList l us := (hl.push _).extBut sb1.extBut ne
  obtain ⟨oi, hoi, _⟩ := id it1
  obtain ⟨ol, hol, _⟩ := id l1
  have e0 : (us.toList.drop 0).take i = us.toList.take i := by rw [List.drop_zero]
  rw [e0, if_neg (by rw [List.length_take]; omega)]
  refine wpAny_bind (wpAny_holding (kun_collect (s := { s with heap := h1 }) (T := "list_iterator") (.inr (.inr (.inl rfl))) (Walks.list (A := A.in1) hh s.heap.objs.size l ne us) (fun j u st => st.1.typeIs) (k := i) hi ⟨it1, l1⟩ (Heap.lt_size hoi) (Heap.lt_size hol) (fun h2 tk keep => ?_) (by rw [sizeLine_eq]; omega)))
  have all : (us.toList.drop i).length - (i + 1 - 1 - i) = (us.toList.drop i).length := by omega
  show wpAny _ _ (if (us.toList.drop i).length < i + 1 - 1 - i then _ else _) _ _ _
  rw [if_neg (by omega)]
  show wpAny _ _ (newList ((us.toList.drop i).take ((us.toList.drop i).length - (i + 1 - 1 - i))) >>= fun d => pure (us.toList.take i ++ [d] ++ (us.toList.drop i).drop ((us.toList.drop i).length - (i + 1 - 1 - i)))) _ _ _
  rw [all, List.take_length, List.drop_length]
  have sub : ∀ b o, s.heap.get? b = some o → h2.get? b = some o := fun b o e => keep b o (Nat.ne_of_lt (Heap.lt_size e)) (sb1.extBut b o (Nat.ne_of_lt (Heap.lt_size e)) (Heap.get?_push_of_some _ e))
  refine wpAny_bind (wpAny_newList (wpAny_pure ?_) (by rw [List.length_drop, sz, sizeLine_eq]; omega))
  rw [List.append_nil]
  exact k h2 tk sub
end
/-- a, b, .., *rest = a list: i names ahead of the rest -/
def gStar (K : PySem.W.Frag) (i : Nat) (t : TGs) : TG := fun v σ H Q => ∃ a xs, v = .ref a ∧ SqL K H a xs ∧ i ≤ xs.length ∧ xs.length ≤ 16384 ∧ ∀ p, H p = none → t (xs.take i ++ [.ref p]) σ (upd H p (.lst (xs.drop i))) Q
section
variable {X : Cx} {pos : Pos}
theorem vals_take {xs : List V} {us : List Value} (r : Vals xs us) : ∀ i, Vals (xs.take i) (us.take i) := by
  induction r with
  | nil => intro i; simp; exact .nil
  | cons r t ih =>
    intro i
    cases i with
    | zero => exact .nil
    | succ i => exact .cons r (ih i)
theorem vals_drop {xs : List V} {us : List Value} (r : Vals xs us) : ∀ i, Vals (xs.drop i) (us.drop i) := by
  induction r with
  | nil => intro i; simp; exact .nil
  | cons r t ih =>
    intro i
    cases i with
    | zero => exact .cons r t
    | succ i => exact ih i
theorem vals_snoc {xs : List V} {us : List Value} {x : V} {u : Value} (r : Vals xs us) (h : RelV x u) : Vals (xs ++ [x]) (us ++ [u]) := by
  induction r with
  | nil => exact .cons h .nil
  | cons r t ih => exact .cons r ih
theorem pgs_star {e : Expr} {p : Pos} {t : TG} (h1 : PG X e t)
    (hs : (assignEach [.Starred e p] X.env).map (·.2) = [assign e X.env] := by rfl) : PGs X [.Starred e p] (gCons t gNil) := by
  refine ⟨fun pins s σ H vs us Q I r h => ?_⟩
  obtain ⟨v, vr, e1, h⟩ := h
  subst e1
  cases r with
  | cons r rr =>
    rw [hs]
    refine assignInOrder_cons (thn (h1.run pins s σ H _ _ _ I r h) fun _ s1 ⟨σ1, H1, I1, q1⟩ => ?_)
    obtain ⟨e2, q1⟩ := q1
    subst e2
    cases rr
    exact assignInOrder_nil ⟨σ1, H1, I1, q1⟩
theorem pg_star {es : List Expr} {k : Nat} {t : TGs} {i : Nat} (hc : X.calm = true) (h : PGs X es t)
    (hn : (assignEach es X.env).length = i + 1 := by rfl) (hst : (assignEach es X.env).findIdx? (·.1) = some i := by rfl) : PG X (.Tuple es k pos) (gStar X.K i t) := by
  refine ⟨fun pins s σ H v u Q I r hw => ?_⟩
  obtain ⟨a, xs, e1, hq, hi, hl, hw⟩ := hw
  subst e1
  cases r
  obtain ⟨its, rv, pl, hz⟩ := I.list hq
  have el := rv.length
  rw [PyProof.Rows.assign_Tuple]
  refine wpAny_bind (wpAny_standAt ?_)
  unfold unpack
  rw [hn, hst]
  refine wpAny_bind (wpAny_holding (star_list pl.isList (I.ok.hd hc) (by simpa [← el] using hi) (by simpa [← el] using hl) fun h' tk keep => ?_))
  have I1 : Inv X pins σ H { s with heap := h', toks := tk } := I.kept keep
  have hp := I1.hok.fresh (Nat.le_refl _)
  have I2 := I1.laid (a := h'.objs.size) (o := .lst (xs.drop i)) (h' := h'.push { cls := .type "list", data := .seq (its.drop i).toArray }) (t' := tk) (fun b u q => Heap.get?_push_of_some _ q) (Nat.le_refl _) ⟨by rw [List.length_drop]; omega, its.drop i, _, vals_drop rv i, Heap.get?_push_size _ rfl⟩
  exact h.run pins _ σ _ _ _ Q I2 (by simpa using vals_snoc (vals_take rv i) (x := .ref h'.objs.size) (u := .ref h'.objs.size) rfl) (hw _ hp)
end
end Pz
namespace Pz
open PySem L2
/-! ### a comprehension that makes data of some items -/
section
variable {K : PySem.W.Frag} {a D : Addr} {xs : List V} {g : TG} {tt : TT} {te : TE} {vs : List Nat} {σ : St} {H F0 : Hp} {Qd : Hp → Prop}
theorem lc_pick (ds : List (Option PyData)) (hl : ds.length = xs.length) (hz : xs.length ≤ 1000) (hs : SqL K H a xs) (hD : H D = none) (sF : Same F0 H)
    (step : ∀ (i : Nat) (x : V) (od : Option PyData) (F' H' : Hp) (Q' : VK) (Nx : Hp → Prop), xs[i]? = some x → ds[i]? = some od → Same H H' → Gr F0 H F' H' → H' D ≠ none → F' D = none →
      (∀ d, od = some d → ∀ y F4 H4, Same H' H4 → Gr F' H' F4 H4 → R F4 d y → Q' y H4) → (od = none → ∀ H4, Same H' H4 → Nx H4) →
      g x (wipe σ vs) H' fun σ2 H2 => wipe σ2 vs = wipe σ vs ∧ tt σ2 H2 fun b H3 => if b = true then te σ2 H3 Q' else Nx H3)
    (hd : ∀ F' H' ys, Same H H' → Gr F0 H F' H' → F' D = none → RA F' (ds.filterMap id) ys → H' D = some (.lst ys) → Qd H') :
    ∃ W : Nat → Nat → Hp → Prop, (∃ m, W 0 m (upd H D (.lst []))) ∧ ∀ i m H, W i m H →
      ((Itl K a).stop i H ∧ Qd H) ∨ ((Itl K a).go i H ∧ ∃ Nx : Hp → Prop, (∀ H', Nx H' → ∃ m', m' < m ∧ W (i + 1) m' H') ∧ ∀ x H', (Itl K a).yld i H x H' → g x (wipe σ vs) H' fun σ2 H2 => wipe σ2 vs = wipe σ vs ∧ tt σ2 H2 fun b H3 =>
        if b = true then te σ2 H3 fun y H4 => ∃ acc, H4 D = some (.lst acc) ∧ acc.length < sizeLine ∧ Nx (upd H4 D (.lst (acc ++ [y]))) else Nx H3) := by
  have f0D : F0 D = none := same_none sF hD
  refine lc_list (tt := tt) (fun i H' => ∃ F' ys, Same H H' ∧ Gr F0 H F' H' ∧ F' D = none ∧ RA F' ((ds.take i).filterMap id) ys ∧ H' D = some (.lst ys))
    ⟨F0, [], same_upd hD, (Gr.refl sF).put f0D, f0D, by simp [RA], upd_same⟩ (fun i H' _ ⟨F', ys, s1, _⟩ => s1.seq hs) (fun i x H' hx ⟨F', ys, s1, gr, fD, ra, hD'⟩ => ?_) (fun H' ⟨F', ys, s1, gr, fD, ra, hD'⟩ => ?_)
  · have hi := (List.getElem?_eq_some_iff.mp hx).1
    have hd' : ds[i]? = some (ds[i]'(by omega)) := List.getElem?_eq_getElem (by omega)
    have el := RA.len ra
    have el2 := List.length_filterMap_le id (ds.take i)
    rw [List.length_take] at el2
    have nD : H' D ≠ none := by rw [hD']; exact fun q => nomatch q
    have e2 : (ds.take (i + 1)).filterMap id = (ds.take i).filterMap id ++ (match ds[i]'(by omega) with | some d => [d] | none => []) := by
      rw [List.take_add_one, hd', List.filterMap_append]
      congr 1
      cases ds[i]'(by omega) <;> rfl
    generalize ds[i]'(by omega) = od at *
    refine step i x od F' H' _ _ hx hd' s1 gr nD fD (fun d ed y F4 H4 s4 g4 hR => ?_) (fun ed H4 s4 => ?_)
    · subst ed
      have f4D := g4.out fD nD
      refine ⟨ys, s4 _ _ hD', small1000 (by omega), F4, ys ++ [y], ?_, (gr.trans g4 fun z hz => same_none s1 hz).put f4D, f4D, ?_, upd_same⟩
      · exact fun b o e => by
          rw [upd_ne (fun z => by rw [z, hD] at e; cases e)]
          exact s4 _ _ (s1 _ _ e)
      · rw [e2]
        exact RA.snoc (RA.mono g4.le _ _ ra) hR
    · subst ed
      refine ⟨F', ys, s1.trans s4, gr.step s4, fD, ?_, s4 _ _ hD'⟩
      rw [e2, List.append_nil]
      exact ra
  · rw [List.take_of_length_le (by omega)] at ra
    exact hd F' H' ys s1 gr fD ra hD'
end
end Pz

namespace Pz
open PySem PySem.Spec PyProof.Rows L2
/-! ### a list comprehension whose element may raise -/
/-- the end of a block, its exception passed on with the block's own env -/
def endX (M : Model) (A : Around) (E : Value → Shared → Prop) (use : Option (Value → Sem Unit)) (Q : Value → Shared → Prop) (acc : Value) (cenv : Env) (r : Result) (s' : Shared) : Prop := match r with
  | .ok f => compPost M A E use Q acc cenv.locals (.ok f) s'
  | .error x => ∃ m, s'.heap.Ns cenv.locals m ∧ ∀ h', Heap.SameBut cenv.locals s'.heap h' → wpAny M A (passOn "comprehension.variables-let-go" x cenv : Sem Value) (fun _ _ => False) E { s' with heap := h' }
theorem comprehension_endX {M : Model} {A : Around} {E : Value → Shared → Prop} {s : Shared} {env : Env} {e : Expr} {scope : Scope} {pos : Pos} {newAcc first : Sem Value} {g : Comprehension} {gs : List Comprehension} {cl : List (Str × Addr)} {use : Option (Value → Sem Unit)} {Q : Value → Shared → Prop}
    (hcl : clausesOf e = g :: gs) (hs : ∀ x, foldedSetIterable g.iter env x = pure x) (hclos : closureFor scope env = pure cl) (hkind : scope.kind = .function) (hnames : ∀ x ∈ scope.names, x.2 = .local → scope.names.lookup x.1 = some .local)
    (h : wpAny M A first (fun x s1 => wpAny M A (pyIter x) (fun it s2 => wpAny M A newAcc (fun acc s3 => wpAny M A (newFunctionEnv scope env.globals cl [] env.qual none .none (some env)) (fun cenv s4 =>
      codeAny M A (.compStart e 0 it acc { cenv with scope := relabel scope env }) (endX M A E use Q acc { cenv with scope := relabel scope env }) s4) E s3) E s2) E s1) E s) :
    wpAny M A (comprehension e scope env pos newAcc false first use) Q E s := by
  have same : ∀ {α : Type} {t : Sem α} {P P' : α → Shared → Prop} {u : Shared}, wpAny M A t P E u → (∀ a v, P a v → P' a v) → wpAny M A t P' E u := fun w k => wpAny_mono w k fun _ _ z => z
  unfold comprehension
  rw [hclos, hcl]
  refine wpAny_bind (same h fun x s1 h1 => wpAny_bind (wpAny_standAt (wpAny_bind (wpAny_of_eq (hs x) (wpAny_bind (wpAny_holding (same h1 fun it s2 h2 => ?_)))))))
  refine wpAny_standIf (wpAny_bind (same h2 fun acc s3 h3 => wpAny_bind (wpAny_pure (wpAny_bind (same h3 fun cenv s4 h4 => ?_)))))
  dsimp only
  have loc : ∀ x ∈ (scope.names.filter fun x => (x.2 == .local || x.2 == .cell) && x.1 != (".0" : Str)).reverse, x.2 = .local → Env.kindOf { cenv with scope := relabel scope env } x.1 = some .local := fun x hx hl =>
    lookup_relabel_local (hnames x (List.mem_filter.mp (List.mem_reverse.mp hx)).1 hl)
  have loc2 : ∀ x ∈ (scope.names.filter fun x => (x.2 == .local || x.2 == .cell) && x.1 != (".0" : Str)).reverse.drop 1 ++ (scope.names.filter fun x => (x.2 == .local || x.2 == .cell) && x.1 != (".0" : Str)).reverse.take 1,
      x.2 = .local → Env.kindOf { cenv with scope := relabel scope env } x.1 = some .local := fun x hx hl => (List.mem_append.mp hx).elim (fun k => loc x (List.mem_of_mem_drop k) hl) fun k => loc x (List.mem_of_mem_take k) hl
  refine wpAny_holding (wpAny_bind (wpAny_attempt (wpAny_holding (wpAny_run (codeAny_mono h4 fun r s' hr => ?_)))))
  cases r with
  | error x =>
    obtain ⟨m, hn, hr⟩ := hr
    exact wpAny_bind (wpAny_holding (wpAny_comp_letGo (cenv := { cenv with scope := relabel scope env }) hkind _ s' m loc hn fun h' m' _ hb => wpAny_mono (hr h' hb) (fun _ _ z => z.elim) fun _ _ z => z))
  | ok f =>
    cases use with
    | none =>
      obtain ⟨m, hn, hr⟩ := hr
      exact wpAny_bind (wpAny_holding (wpAny_comp_letGo (cenv := { cenv with scope := relabel scope env }) hkind _ s' m loc hn fun h' m' _ hb => wpAny_pure (hr h' hb)))
    | some u =>
      refine wpAny_bind (wpAny_rule (wpAny_bind (wpAny_holding (same hr fun _ s2 hq => ?_))))
      obtain ⟨m, hn, hq⟩ := hq
      exact wpAny_bind (wpAny_comp_letGo (cenv := { cenv with scope := relabel scope env }) hkind _ s2 m loc2 hn fun h' m' _ hb => wpAny_pure (hq h' hb))
/-- what a block's element may let out: what a call of it lets out -/
def EB (Xb : Cx) (Ex : XK) (e : Value) (s' : Shared) : Prop := ∃ pins σ H s, Inv Xb pins σ H s ∧ L2.CX Xb.prog Xb.w Xb.stack H s Ex e s'
theorem passes_EB {Xb : Cx} {Ex : XK} : Passes (L2.CX Xb.prog Xb.w) (Xb.wish (EB Xb Ex)) Ex := fun pins σ H s _ _ I c => ⟨pins, σ, H, s, I.unwish, c⟩
theorem frames_on {h h' B B' : Heap} : ∀ {l : List Env}, h.FunFrames B l → (∀ L ∈ frs l, h'.get? L = h.get? L) → (∀ L ∈ frs l, B.get? L = none → B'.get? L = none) → h'.FunFrames B' l
  | [], _, _, _ => trivial
  | env :: l, f, k, n => by
    obtain ⟨a, ⟨L, o, hf, hb, ho, hd⟩, r⟩ := f
    have hm : L ∈ frs (env :: l) := List.mem_filterMap.mpr ⟨env, List.mem_cons_self, hf⟩
    have sub : ∀ M ∈ frs l, M ∈ frs (env :: l) := fun M hM => by
      obtain ⟨e, he, q⟩ := List.mem_filterMap.mp hM
      exact List.mem_filterMap.mpr ⟨e, List.mem_cons_of_mem _ he, q⟩
    exact ⟨a, ⟨L, o, hf, n L hm hb, (k L hm).trans ho, hd⟩, frames_on r (fun M hM => k M (sub M hM)) fun M hM => n M (sub M hM)⟩
theorem note_frame {a : Value} {e e' : Env} (h : e.frame = e'.frame) : noteFrame a e = noteFrame a e' := by
  unfold noteFrame PySem.frameOf
  rw [h]
section
variable {X : Cx} {W : WX}
/-- the block's exception is noted, its names are let go, it is in the air of X -/
theorem block_err {pins : List (Addr × Obj)} {σ : L2.St} {H3 : Hp} {s3 s' : Shared} {scope : Scope} {ce : Env} {fp : List Addr} {use : Option (Value → Sem Unit)} {Qf : Value → Shared → Prop} {acc e : Value}
    (tk : Takes X W) (hst : X.stack = X.env :: X.outer) (hf : X.env.frame = some X.env.locals) (I3 : Inv X pins σ H3 s3) (f3 : ∀ b ∈ fp, FpOk X pins H3 b) (cL : ce.locals = s3.heap.objs.size) (cF : ce.frame = X.env.frame)
    (x : EB (X.blk s3 H3 scope ce fp) (fun cls d H' => W cls d σ H') e s') :
    notedBy (model X.prog X.w) X.A ce (fun e s'' => endX (model X.prog X.w) X.A X.xe use Qf acc ce (.error e) s'') e s' := by
  obtain ⟨pb, σb, Hb, sb, Ib, c⟩ := x
  have Ix : Inv X pins σ Hb sb := I3.call' (ch := fp) Ib.os Ib.base Ib.hok Ib.bare fun b hb => ⟨(f3 b hb).2.2.2.1, (f3 b hb).2.1, (f3 b hb).2.2.2.2.1, (f3 b hb).2.2.2.2.2⟩
  generalize hC : s3.heap.objs.size = C at cL
  have nC3 : Hb C = none := by rw [← cL]; exact Ib.free
  obtain ⟨f0, f1, f2, f3', f4, f5⟩ := I3.fpOk (H' := Hb) (b := C) (Nat.le_of_eq hC) nC3
  have nCs : C ∉ frs X.stack := by
    rw [hst]
    intro z
    obtain ⟨en, he, q⟩ := List.mem_filterMap.mp z
    rcases List.mem_cons.mp he with rfl | he
    · rw [hf] at q; exact f1 (Option.some.inj q).symm
    · exact f2 (List.mem_filterMap.mpr ⟨en, he, q⟩)
  obtain ⟨mC, hnC, _⟩ := Ib.loc
  have hnC : sb.heap.Ns ce.locals mC := hnC
  rw [cL] at hnC
  obtain ⟨a, B0, H0, cls, d, rfl, fl, hok, ub, na, os, ag, hE⟩ := c
  have nsC : s'.heap.Ns C mC ∧ H0 C = none := by
    obtain ⟨oC, es, ep, hoC, hdC, r⟩ := hnC
    exact ⟨⟨oC, es, ep, fl.1 _ _ (ub.keep C oC hoC nC3 nCs), hdC, r⟩, ub.free C oC hoC nC3⟩
  have c' : L2.CX X.prog X.w X.stack Hb sb (fun cls d H' => W cls d σ H' ∧ H' C = none) (.ref a) s' := ⟨a, B0, H0, cls, d, rfl, fl, hok, ub, na, os, ag, hE, nsC.2⟩
  obtain ⟨a', B, sI, pI, σI, HI, cls', d', ea, JI, nb, up, sky, na', os', ag', eσ, hw, nCI⟩ := XE.of_call (W := fun cls d σ' H' => σ' = σ ∧ W cls d σ' H' ∧ H' C = none) Ix (fun cls d H' h => ⟨rfl, h⟩) c'
  cases ea
  subst eσ
  have hfr : X.A.frames = some (X.env :: X.outer) := by rw [← hst]; exact Ix.ok.frames
  unfold notedBy
  rw [note_frame cF]
  have fin : ∀ h1, HandSPX.HeldZ B (X.env :: X.outer) a (Zc cls' d') X.env.locals h1 → s'.heap.UpToSlots h1 → endX (model X.prog X.w) X.A X.xe use Qf acc ce (.error (.ref a)) { s' with heap := h1 } := by
    intro h1 hh up1
    refine ⟨mC, by rw [cL]; exact up1.ns nsC.1, fun h' sbC => ?_⟩
    rw [cL] at sbC
    obtain ⟨k1, k2, k3, oe, vs, T, oT, ts, he, hz, hd, hv1, hbT, hTe, hT, hdT, h3⟩ := hh
    obtain ⟨oC, es, ep, hoC, hdC, _⟩ := up1.ns nsC.1
    have naC : a ≠ C := fun z => by rw [z, hoC] at he; cases he; rw [hdC] at hd; cases hd
    have nTC : T ≠ C := fun z => by rw [z, hoC] at hT; cases hT; rw [hdC] at hdT; cases hdT
    have old : ∀ b, b ≠ C → h'.get? b = h1.get? b := fun b hb => sbC.2 b hb
    obtain ⟨B', g1, g2⟩ := restrict B fun b => !decide (b = C)
    have gne : ∀ b, b ≠ C → B'.get? b = B.get? b := fun b hb => g1 b (by simp [hb])
    have gsub : ∀ b o, B'.get? b = some o → b ≠ C ∧ B.get? b = some o := fun b o q => by
      by_cases z : b = C
      · rw [g2 b (by simp [z])] at q; cases q
      · exact ⟨z, (gne b z).symm.trans q⟩
    obtain ⟨GI, i1, i2⟩ := restrict sI.heap fun b => !decide (b = C)
    have ine : ∀ b, b ≠ C → GI.get? b = sI.heap.get? b := fun b hb => i1 b (by simp [hb])
    have isub : ∀ b o, GI.get? b = some o → b ≠ C ∧ sI.heap.get? b = some o := fun b o q => by
      by_cases z : b = C
      · rw [i2 b (by simp [z])] at q; cases q
      · exact ⟨z, (ine b z).symm.trans q⟩
    have nfr : ∀ L ∈ frs (X.env :: X.outer), L ≠ C := fun L hL z => nCs (by rw [hst, ← z]; exact hL)
    have st' : B'.StaysIn h' := fun b o q => by
      obtain ⟨z, q⟩ := gsub b o q
      exact (old b z).trans (k1 b o q)
    have ff' : h'.FunFrames B' (X.env :: X.outer) := frames_on k3 (fun L hL => old L (nfr L hL)) fun L hL q => (gne L (nfr L hL)).trans q
    have tr' : HandSPX.TracedZ h' B' a (Zc cls' d') (rawInt X.env.locals) := ⟨oe, vs, T, oT, ts, (old a naC).trans he, hz, hd, hv1, (gne T nTC).trans hbT, hTe, (old T nTC).trans hT, hdT, h3⟩
    unfold PySem.passOn
    refine wpAny_bind (wpAny_field ((old a naC).trans he) hd hv1 ?_)
    rw [if_neg (show ¬ ((Value.ref T == Value.none) = true) from by simp)]
    rw [cF, hf]
    refine wpAny_bind (HandSPX.setFlight_anyZ (fr := some X.env.locals) st' ff' tr' fun h'' a1 a2 a3 a4 => wpAny_throw (tk _ _ ?_))
    have up' : GI.UpToSlots h'' := fun b o q nf => by
      obtain ⟨z, q⟩ := isub b o q
      obtain ⟨sl, q1⟩ := up b o q nf
      obtain ⟨sl2, q2⟩ := up1 b _ q1 nf
      obtain ⟨sl3, q3⟩ := a4 b _ ((old b z).trans q2) nf
      exact ⟨sl3, q3⟩
    have J0 : Inv X ([] : List (Addr × Obj)) σI HI sI := (Inv.unpinned (pins := []) (pl := pI) (by simpa using JI))
    have J1 : Inv X [] σI HI { sI with heap := GI } := J0.turned (t' := sI.toks) (it := C) (fun b o hb q => (ine b hb).trans q) nCI f1 f3' f4 fun p hp => f5 p (List.mem_append_left _ (by simpa using hp))
    refine ⟨a, B', { sI with heap := GI }, [], σI, HI, cls', d', rfl, J1, fun b o q hb => ?_, up', .inr (.inr ?_), na', os', ag', hw⟩
    · obtain ⟨z, q⟩ := isub b o q
      exact (gne b z).trans (nb b o q hb)
    · rw [hst]
      exact ⟨a1, (gne a naC).trans k2, a2, a3⟩
  rw [hst] at sky
  rcases sky with ⟨hB, hn, hl, oe, vs, he, hz, hd, hv1⟩ | fly | hh
  · exact HandSPX.look_newZ Zc.steady hfr hl hf he hB hn hd hv1 hz fin
  · exact HandSPX.looks_onZ Zc.steady hfr hf fly fin
  · exact HandSPX.againZ hf hh.2.2.2 (fin s'.heap hh (Heap.UpToSlots.refl _))
end
section
variable {X : Cx} {W : WX}
theorem lc_coreX {pins : List (Addr × Obj)} {s : Shared} {σ : L2.St} {H : Hp} {Q : VK} {elt tg iter : Expr} {ifs : List Expr} {scope : Scope} {own : List (Str × Nat)} {pos pos' : Pos} {wi : TI} {g : TG} {tt : TT} {te : XK → TE} {use : Option (Value → Sem Unit)} {Qf : Value → Shared → Prop}
    (tk : Takes X W) (hst : X.stack = X.env :: X.outer) (hf : X.env.frame = some X.env.locals)
    (hc : X.calm = true) (hN : X.N.Nodup) (I : Inv X pins σ H s) (hi : PI X tg iter wi) (ok : BlkOk X.N X.env.scope scope own)
    (hg : ∀ (s : Shared) (H : Hp) (C : Addr) (cl : List (Str × Addr)) (fp : List Addr), PG (X.blk s H scope (compEnvC scope cl C X.env) fp) tg g) (ht : ∀ (s : Shared) (H : Hp) (C : Addr) (cl : List (Str × Addr)) (fp : List Addr), PTs (X.blk s H scope (compEnvC scope cl C X.env) fp) ifs tt)
    (he : ∀ (Ex : XK) (s : Shared) (H : Hp) (C : Addr) (cl : List (Str × Addr)) (fp : List Addr), PE ((X.blk s H scope (compEnvC scope cl C X.env) fp).wish (EB (X.blk s H scope (compEnvC scope cl C X.env) fp) Ex)) elt (te Ex)) (hs : ∀ x, foldedSetIterable iter X.env x = pure x)
    (h : tLc wi g tt (te fun cls d H' => W cls d σ H') (own.map (·.2)) σ H Q)
    (hRR : ∀ D C s' m H', Inv X pins σ H' s' → Q (.ref D) H' → s'.heap.Ns C m → FpOk X pins H' C → compPost (model X.prog X.w) X.A X.xe use Qf (.ref D) C (.ok .next) s') :
    wpAny (model X.prog X.w) X.A (comprehension (.ListComp elt [⟨tg, iter, ifs, 0⟩] scope pos) scope X.env pos' (newList []) false (eval iter X.env) use) Qf X.xe s := by
  have hfree : ∀ y ∈ scope.names, y.2 = .free → ∃ c, X.env.cells.lookup y.1 = some c := fun y hy e => by
    rcases ok.free y hy e with k | k
    · exact I.ok.has _ (.inl k)
    · exact I.ok.has _ (.inr k)
  refine comprehension_endX (use := use) rfl hs (closure_ok hfree) ok.kind (fun y hy e => by rw [ok.uniq y hy, e])
    (thn (hi.run pins s σ H _ I h) fun xv s1 hx => thn hx fun itv s2 h2 => ?_)
  obtain ⟨it, fp, tn, J, H2, e, I2, T, st2, f2, q⟩ := h2
  subst e
  refine wpAny_newObj_type (newEnv_comp ?_) (by show 0 ≤ sizeLine; decide)
  generalize hD : s2.heap.objs.size = D
  have hDn : H2 D = none := I2.hok.fresh (Nat.le_of_eq hD)
  obtain ⟨Wt, ⟨m0, w0⟩, turn⟩ := q D hDn
  generalize hs3 : ({ s2 with heap := s2.heap.push { cls := .type "list", data := .seq ([] : List Value).toArray } } : Shared) = s3
  have I3 : Inv X pins σ (upd H2 D (.lst [])) s3 := by
    rw [← hs3]
    refine I2.laid (t' := s2.toks) (fun b o e => Heap.get?_push_of_some _ e) (Nat.le_of_eq hD) ⟨Nat.zero_le _, [], 0, .nil, ?_⟩
    rw [← hD]
    exact Heap.get?_push_size _ rfl
  have h3 : s3.heap = s2.heap.push { cls := .type "list", data := .seq ([] : List Value).toArray } := by rw [← hs3]
  have sz : ∀ b ∈ fp, b < s2.heap.objs.size := fun b hb => by
    obtain ⟨o, e, _⟩ := T.obj _ _ st2 b hb
    exact Heap.lt_size e
  have f3 : ∀ b ∈ fp, FpOk X pins (upd H2 D (.lst [])) b ∧ b < s3.heap.objs.size := fun b hb => by
    have hlt := sz b hb
    refine ⟨⟨?_, (f2 b hb).2⟩, by rw [h3, Heap.size_push]; exact Nat.lt_succ_of_lt hlt⟩
    rw [upd_ne (by rw [← hD]; exact Nat.ne_of_lt hlt)]
    exact (f2 b hb).1
  have st3 : tn 0 s3.heap := T.keep _ _ _ st2 fun b _ o e => by rw [h3]; exact Heap.get?_push_of_some _ e
  have I4 := block_start I3 ok hN f3
  have pg := hg s3 (upd H2 D (.lst [])) s3.heap.objs.size (cellsFrom (s3.heap.objs.size + 1) scope.names (cloFrom X.env.cells scope.names [])) fp
  have pt := ht s3 (upd H2 D (.lst [])) s3.heap.objs.size (cellsFrom (s3.heap.objs.size + 1) scope.names (cloFrom X.env.cells scope.names [])) fp
  have pe := he (fun cls d H' => W cls d σ H') s3 (upd H2 D (.lst [])) s3.heap.objs.size (cellsFrom (s3.heap.objs.size + 1) scope.names (cloFrom X.env.cells scope.names [])) fp
  have cF : (compEnvC scope (cellsFrom (s3.heap.objs.size + 1) scope.names (cloFrom X.env.cells scope.names [])) s3.heap.objs.size X.env).frame = X.env.frame := rfl
  show codeAny _ _ (.compStart (.ListComp elt [⟨tg, iter, ifs, 0⟩] scope pos) 0 (.ref it) (.ref D) (compEnvC scope (cellsFrom (s3.heap.objs.size + 1) scope.names (cloFrom X.env.cells scope.names [])) s3.heap.objs.size X.env)) (endX (model X.prog X.w) X.A X.xe use Qf (.ref D) (compEnvC scope (cellsFrom (s3.heap.objs.size + 1) scope.names (cloFrom X.env.cells scope.names [])) s3.heap.objs.size X.env)) { s3 with heap := pushCells (s3.heap.push { cls := .type "dict", data := .dict #[] }) scope.names }
  have nfp : ∀ b ∈ fp, (upd H2 D (.lst [])) b = none := fun b hb => (f3 b hb).1.1
  generalize hce : compEnvC scope (cellsFrom (s3.heap.objs.size + 1) scope.names (cloFrom X.env.cells scope.names [])) s3.heap.objs.size X.env = ce at I4 pg pt pe cF ⊢
  have cL : ce.locals = s3.heap.objs.size := by subst hce; rfl
  generalize hH3 : upd H2 D (.lst []) = H3 at I3 I4 pg pt pe w0 nfp f3
  generalize hs4 : ({ s3 with heap := pushCells (s3.heap.push { cls := .type "dict", data := .dict #[] }) scope.names } : Shared) = s4 at I4 ⊢
  have st4 : tn 0 s4.heap := T.keep _ _ _ st3 fun b _ o e => by rw [← hs4]; exact pushCells_keeps _ _ _ _ (Heap.get?_push_of_some _ e)
  have stat : ∀ {σ' : L2.St} {H' : Hp} {s' : Shared}, Inv (X.blk s3 H3 scope ce fp) [] σ' H' s' → (∀ b ∈ fp, H' b = none) → ∀ b ∈ fp, FpOk (X.blk s3 H3 scope ce fp) [] H' b := fun {σ' H' s'} I' hn b hb =>
    ⟨hn b hb, (I'.ok.exf b hb).1, I'.ok.exfs b hb, .inl hb, fun x c e => (I'.ok.exf b hb).2 x c e, fun p hp => absurd (show p ∈ ([] : List (Addr × Obj)) ++ [] from hp) (by simp)⟩
  have loop : codeAny (model X.prog X.w) X.A (.compLoop (.ListComp elt [⟨tg, iter, ifs, 0⟩] scope pos) 0 (.ref it) (.ref D) ce) (endX (model X.prog X.w) X.A X.xe use Qf (.ref D) ce) s4 := by
    refine compLoop_any (fun n s' => ∃ i H', Inv (X.blk s3 H3 scope ce fp) [] (wipe σ (own.map (·.2))) H' s' ∧ tn i s'.heap ∧ (∀ b ∈ fp, H' b = none) ∧ Wt i n H') ?_ m0 ⟨0, H3, I4, st4, nfp, w0⟩
    rintro n s5 ⟨i, H5, I5, st5, n5, w5⟩
    rcases turn i n H5 w5 with ⟨stop, qq⟩ | ⟨go, Nx, hNx, step⟩
    · have td := T.done (X.blk s3 H3 scope ce fp) rfl rfl rfl hc i [] s5 _ H5 (fun _ _ => False) I5 (stat I5 n5) st5 stop
      refine thnF td fun r s6 ⟨hr, I6⟩ => ?_
      subst hr
      have I7 : Inv X pins σ H5 s6 := I3.call' (ch := fp) I6.os I6.base I6.hok I6.bare fun b hb => ⟨(f3 b hb).1.2.2.2.1, (f3 b hb).1.2.1, (f3 b hb).1.2.2.2.2.1, (f3 b hb).1.2.2.2.2.2⟩
      have nC : H5 s3.heap.objs.size = none := by
        have z : H5 ce.locals = none := I6.free
        rw [cL] at z
        exact z
      obtain ⟨m, hn, _⟩ := I6.loc
      have hn : s6.heap.Ns ce.locals m := hn
      rw [cL] at hn
      have := hRR D s3.heap.objs.size s6 m H5 I7 qq hn (I3.fpOk (Nat.le_refl _) nC)
      rw [← cL] at this
      exact this
    · have ti := T.item (X.blk s3 H3 scope ce fp) rfl rfl rfl hc i [] s5 _ H5 (fun _ _ => False) I5 (stat I5 n5) st5 go
      refine thnF ti fun r s6 ⟨u, hr, h6⟩ => ?_
      subst hr
      refine thnF h6 fun _ s7 ⟨x, H7, I7, r7, y7, st7, n7⟩ => ?_
      have I7' := I7.pinned (stat I7 n7) (T.obj _ _ st7)
      refine thnF (pg.run _ s7 _ H7 x u _ I7' r7 (step x H7 y7)) fun _ s8 ⟨σ8, H8, I8, hw8, q8⟩ => ?_
      refine thnF (pt.run _ s8 σ8 H8 _ I8 q8) fun b s9 ⟨H9, I9, q9⟩ => ?_
      have fin : ∀ {s' : Shared} {H' : Hp}, Inv (X.blk s3 H3 scope ce fp) ([] ++ pinsAt fp s7.heap) σ8 H' s' → Nx H' → ∃ m, m < n ∧ ∃ i H', Inv (X.blk s3 H3 scope ce fp) [] (wipe σ (own.map (·.2))) H' s' ∧ tn i s'.heap ∧ (∀ b ∈ fp, H' b = none) ∧ Wt i m H' := fun {s' H'} I' nx => by
        obtain ⟨m', hm, w'⟩ := hNx H' nx
        have pin' : ∀ b ∈ fp, ∀ o, s7.heap.get? b = some o → s'.heap.get? b = some o ∧ H' b = none := fun b hb o e =>
          let z := I'.pin (b, o) (List.mem_append_right _ (List.mem_append_right _ (mem_pinsAt hb e)))
          ⟨z.1, z.2.1⟩
        have hl : (wipe σ (own.map (·.2))).length = σ8.length := by rw [← hw8, wipe_length]
        refine ⟨m', hm, i + 1, H', (I'.unpinned (pins := [])).weak hl (fun j v e => ?_), T.keep _ _ _ st7 fun b hb o e => (pin' b hb o e).1, fun b hb => ?_, w'⟩
        · rw [← hw8] at e
          exact (wipe_some e).1
        · obtain ⟨o, e, _⟩ := T.obj _ _ st7 b hb
          exact (pin' b hb o e).2
      cases b with
      | false =>
        simp only [Bool.false_eq_true, if_false] at q9 ⊢
        exact fin I9 q9
      | true =>
        simp only [if_true] at q9 ⊢
        refine wpAny_mono (pe.run _ s9 σ8 H9 _ (I9.wish _) q9) (fun z s10 hz => ?_) (fun e s10 x => block_err tk hst hf I3 (fun b hb => (f3 b hb).1) cL cF x)
        obtain ⟨yv, H10, I10, r10, acc, hD10, hz10, nx⟩ := hz
        exact app_ok (X := X.blk s3 H3 scope ce fp) I10.unwish hD10 hz10 r10 fun s11 I11 => fin I11 nx
  exact codeAny_compStart_list loop (T.self X.A 0 _ _ _ st4 loop)
/-- the reading: what the element lets out, X takes -/
def tLcX (W : WX) (wi : TI) (g : TG) (tt : TT) (te : XK → TE) (vs : List Nat) : TE := fun σ H Q => tLc wi g tt (te fun cls d H' => W cls d σ H') vs σ H Q
theorem pe_lcX {elt tg iter : Expr} {ifs : List Expr} {scope : Scope} {own : List (Str × Nat)} {pos : Pos} {wi : TI} {g : TG} {tt : TT} {te : XK → TE} (tk : Takes X W) (hst : X.stack = X.env :: X.outer) (hf : X.env.frame = some X.env.locals) (hc : X.calm = true) (hN : X.N.Nodup) (hi : PI X tg iter wi) (ok : BlkOk X.N X.env.scope scope own)
    (hg : ∀ (s : Shared) (H : Hp) (C : Addr) (cl : List (Str × Addr)) (fp : List Addr), PG (X.blk s H scope (compEnvC scope cl C X.env) fp) tg g) (ht : ∀ (s : Shared) (H : Hp) (C : Addr) (cl : List (Str × Addr)) (fp : List Addr), PTs (X.blk s H scope (compEnvC scope cl C X.env) fp) ifs tt)
    (he : ∀ (Ex : XK) (s : Shared) (H : Hp) (C : Addr) (cl : List (Str × Addr)) (fp : List Addr), PE ((X.blk s H scope (compEnvC scope cl C X.env) fp).wish (EB (X.blk s H scope (compEnvC scope cl C X.env) fp) Ex)) elt (te Ex)) (hs : ∀ x, foldedSetIterable iter X.env x = pure x := by intro _; rfl) :
    PE X (.ListComp elt [⟨tg, iter, ifs, 0⟩] scope pos) (tLcX W wi g tt te (own.map (·.2))) := by
  refine ⟨fun pins s σ H Q I h => ?_⟩
  rw [eval_ListComp]
  refine lc_coreX tk hst hf hc hN I hi ok hg ht he hs h fun D C s' m H' I' q hn f => ⟨m, hn, fun h'' sb => ?_⟩
  obtain ⟨f0, f1, f2, f3, f4, f5⟩ := f
  exact ⟨.ref D, H', I'.turned (t' := s'.toks) (fun b o hb e => (sb.2 b hb).trans e) f0 f1 f3 f4 f5, rfl, q⟩
theorem ps_setLcX {i : Nat} {y : Str} {py : Pos} {elt tg iter : Expr} {ifs : List Expr} {scope : Scope} {own : List (Str × Nat)} {pos spos : Pos} {wi : TI} {g : TG} {tt : TT} {te : XK → TE} (tk : Takes X W) (hst : X.stack = X.env :: X.outer) (hf : X.env.frame = some X.env.locals) (hc : X.calm = true) (hN : X.N.Nodup) (hy : X.N[i]? = some y) (hyl : X.env.scope.names.lookup y = some .local)
    (hsw : swapsWith (.ListComp elt [⟨tg, iter, ifs, 0⟩] scope pos) (some (.Name y py)) spos.line X.env = pure true) (hi : PI X tg iter wi) (ok : BlkOk X.N X.env.scope scope own)
    (hg : ∀ (s : Shared) (H : Hp) (C : Addr) (cl : List (Str × Addr)) (fp : List Addr), PG (X.blk s H scope (compEnvC scope cl C X.env) fp) tg g) (ht : ∀ (s : Shared) (H : Hp) (C : Addr) (cl : List (Str × Addr)) (fp : List Addr), PTs (X.blk s H scope (compEnvC scope cl C X.env) fp) ifs tt)
    (he : ∀ (Ex : XK) (s : Shared) (H : Hp) (C : Addr) (cl : List (Str × Addr)) (fp : List Addr), PE ((X.blk s H scope (compEnvC scope cl C X.env) fp).wish (EB (X.blk s H scope (compEnvC scope cl C X.env) fp) Ex)) elt (te Ex)) (hs : ∀ x, foldedSetIterable iter X.env x = pure x := by intro _; rfl) :
    PS X (.Assign [.Name y py] (.ListComp elt [⟨tg, iter, ifs, 0⟩] scope pos) spos) (tAsg (tLcX W wi g tt te (own.map (·.2))) (gName i)) := by
  refine ⟨fun pins s σ H D I h => ?_⟩
  rw [exec_Assign_Name_used _ _ _ _ hsw]
  refine wpAny_bind (wpAny_standAt (wpAny_bind ?_))
  show wpAny _ X.A (do let _ ← comprehension (.ListComp elt [⟨tg, iter, ifs, 0⟩] scope pos) scope X.env (firstIterPos [⟨tg, iter, ifs, 0⟩] pos) (newList []) false (eval iter X.env) (some (assign (.Name y py) X.env))) _ _ s
  have h : tLcX W wi g tt te (own.map (·.2)) σ H (fun x H1 => gName i x σ H1 D.nx) := h
  refine wpAny_bind (thn (lc_coreX (Qf := fun _ s' => SP X pins D .next s') tk hst hf hc hN I hi ok hg ht he hs h fun L C s' m H' I' q hn f => ?_) fun _ s' hq => wpAny_pure (wpAny_pure hq))
  show wpAny _ _ (assign (.Name y py) X.env (.ref L)) _ _ _
  refine wpAny_assign_Name (store_ok2 (v := V.ref L) I' hN hy (.inl hyl) rfl (fun s2 I2 ⟨a, sb, ha⟩ => ?_) (.inr hyl))
  obtain ⟨f0, f1, f2, f3, f4, f5⟩ := f
  have haC : C ≠ a := by
    rcases ha with z | z
    · rw [z]; exact f1
    · exact fun e => f4 y a z e.symm
  refine ⟨m, hn.sameBut sb haC, fun h3 sb3 => ?_⟩
  exact ⟨_, H', I2.turned (t' := s2.toks) (fun b o hb e => (sb3.2 b hb).trans e) f0 f1 f3 f4 f5, q⟩
end
end Pz

namespace Pz
open PySem L2
open PyProof.Rows (envOfC)
/-! ### the text by places -/
def topS (i : Nat) : Stmt := PySem.Challenge.pw_paidinparts_k03_states_let_and_refused.main.body.getD i (.Pass ⟨0, 0, 0, 0⟩)
abbrev s_law_well : Stmt := topS 24
theorem sc_law_well : FnScope ["cell", "k", "size"] ["cell", "k"] (defScope s_law_well) := ⟨rfl, rfl, rfl, by decide +kernel, rfl, by decide +kernel, by decide +kernel⟩
abbrev s_law_draw : Stmt := topS 25
theorem sc_law_draw : FnScope ["well", "many", "drawn", "mixed"] ["well", "many"] (defScope s_law_draw) := ⟨rfl, rfl, rfl, by decide +kernel, rfl, by decide +kernel, by decide +kernel⟩
abbrev s_law_number : Stmt := topS 27
theorem sc_law_number : FnScope ["well", "far", "way"] ["well", "far"] (defScope s_law_number) := ⟨rfl, rfl, rfl, by decide +kernel, rfl, by decide +kernel, by decide +kernel⟩
abbrev s_law_counts : Stmt := topS 29
theorem sc_law_counts : FnScope ["well", "many", "far", "k"] ["well", "many", "far"] (defScope s_law_counts) := ⟨rfl, rfl, rfl, by decide +kernel, rfl, by decide +kernel, by decide +kernel⟩
abbrev s_law_word : Stmt := topS 26
theorem sc_law_word : FnScope ["well", "taken", "letters", "way", "word", "near", "at", "spare", "k"] ["well", "taken"] (defScope s_law_word) := ⟨rfl, rfl, rfl, by decide +kernel, rfl, by decide +kernel, by decide +kernel⟩
abbrev s_law_steps : Stmt := topS 28
theorem sc_law_steps : FnScope ["well", "size", "words", "most", "steps", "k", "start", "end", "name", "step"] ["well", "size", "words", "most"] (defScope s_law_steps) := ⟨rfl, rfl, rfl, by decide +kernel, rfl, by decide +kernel, by decide +kernel⟩
abbrev s_law_data : Stmt := topS 30
theorem sc_law_data : FnScope ["well", "most", "far", "columns", "k", "kinds", "names", "size", "states", "state", "steps", "checks"] ["well", "most", "far"] (defScope s_law_data) := ⟨rfl, rfl, rfl, by decide +kernel, rfl, by decide +kernel, by decide +kernel⟩
abbrev s_law_sum : Stmt := topS 31
theorem sc_law_sum : FnScope ["well", "columns", "numbers", "turn", "bare", "found", "k", "at"] ["well", "columns", "numbers"] (defScope s_law_sum) := ⟨rfl, rfl, rfl, by decide +kernel, rfl, by decide +kernel, by decide +kernel⟩
abbrev s_law_handed : Stmt := topS 32
theorem sc_law_handed : FnScope ["well", "data", "kinds", "name", "states", "steps", "factors", "counts"] ["well", "data"] (defScope s_law_handed) := ⟨rfl, rfl, rfl, by decide +kernel, rfl, by decide +kernel, by decide +kernel⟩
abbrev s_numbers_of : Stmt := topS 11
theorem sc_numbers_of : FnScope ["columns", "table", "column"] ["columns", "table"] (defScope s_numbers_of) := ⟨rfl, rfl, rfl, by decide +kernel, rfl, by decide +kernel, by decide +kernel⟩
abbrev s_is_name : Stmt := topS 15
theorem sc_is_name : FnScope ["text", "sign"] ["text"] (defScope s_is_name) := ⟨rfl, rfl, rfl, by decide +kernel, rfl, by decide +kernel, by decide +kernel⟩
abbrev s_require_name : Stmt := topS 16
theorem sc_require_name : FnScope ["text"] ["text"] (defScope s_require_name) := ⟨rfl, rfl, rfl, by decide +kernel, rfl, by decide +kernel, by decide +kernel⟩
abbrev s_require_new_name : Stmt := topS 17
theorem sc_require_new_name : FnScope ["text", "earlier"] ["text", "earlier"] (defScope s_require_new_name) := ⟨rfl, rfl, rfl, by decide +kernel, rfl, by decide +kernel, by decide +kernel⟩
abbrev s_checked_columns : Stmt := topS 18
theorem sc_checked_columns : FnScope ["columns", "known", "name"] ["columns"] (defScope s_checked_columns) := ⟨rfl, rfl, rfl, by decide +kernel, rfl, by decide +kernel, by decide +kernel⟩
abbrev s_checked_rows : Stmt := topS 19
theorem sc_checked_rows : FnScope ["columns", "kind", "states", "rows", "counts"] ["columns", "kind", "states"] (defScope s_checked_rows) := ⟨rfl, rfl, rfl, by decide +kernel, rfl, by decide +kernel, by decide +kernel⟩
abbrev s_checked_steps : Stmt := topS 20
theorem sc_checked_steps : FnScope ["size", "steps", "begun", "step", "name", "source", "target"] ["size", "steps"] (defScope s_checked_steps) := ⟨rfl, rfl, rfl, by decide +kernel, rfl, by decide +kernel, by decide +kernel⟩
abbrev s_checked_kinds : Stmt := topS 21
theorem sc_checked_kinds : FnScope ["columns", "kinds", "known", "made", "name", "states", "steps", "rows"] ["columns", "kinds"] (defScope s_checked_kinds) := ⟨rfl, rfl, rfl, by decide +kernel, rfl, by decide +kernel, by decide +kernel⟩
abbrev s_Planinit : Stmt := inClass (topS 22) 0
theorem sc_Planinit : FnScope ["self", "columns", "kinds", "checks", "check"] ["self", "columns", "kinds", "checks"] (defScope s_Planinit) := ⟨rfl, rfl, rfl, by decide +kernel, rfl, by decide +kernel, by decide +kernel⟩
abbrev s_Plan_columns : Stmt := inClass (topS 22) 1
theorem sc_Plan_columns : FnScope ["self"] ["self"] (defScope s_Plan_columns) := ⟨rfl, rfl, rfl, by decide +kernel, rfl, by decide +kernel, by decide +kernel⟩
abbrev s_Plan_kinds : Stmt := inClass (topS 22) 2
theorem sc_Plan_kinds : FnScope ["self", "name", "rows", "steps", "row"] ["self"] (defScope s_Plan_kinds) := ⟨rfl, rfl, rfl, by decide +kernel, rfl, by decide +kernel, by decide +kernel⟩
abbrev s_Plan_checks : Stmt := inClass (topS 22) 3
theorem sc_Plan_checks : FnScope ["self", "factors"] ["self"] (defScope s_Plan_checks) := ⟨rfl, rfl, rfl, by decide +kernel, rfl, by decide +kernel, by decide +kernel⟩
structure Txt (K : PySem.W.Frag) (mg : Str → Option Value) : Prop where
  d_law_well : DefAt K mg "_law_well" s_law_well ["cell", "k"]
  d_law_draw : DefAt K mg "_law_draw" s_law_draw ["well", "many"]
  d_law_number : DefAt K mg "_law_number" s_law_number ["well", "far"]
  d_law_counts : DefAt K mg "_law_counts" s_law_counts ["well", "many", "far"]
  d_law_word : DefAt K mg "_law_word" s_law_word ["well", "taken"]
  d_law_steps : DefAt K mg "_law_steps" s_law_steps ["well", "size", "words", "most"]
  d_law_data : DefAt K mg "_law_data" s_law_data ["well", "most", "far"]
  d_law_sum : DefAt K mg "_law_sum" s_law_sum ["well", "columns", "numbers"]
  d_law_handed : DefAt K mg "_law_handed" s_law_handed ["well", "data"]
  d_numbers_of : DefAt K mg "numbers_of" s_numbers_of ["columns", "table"]
  d_is_name : DefAt K mg "is_name" s_is_name ["text"]
  d_require_name : DefAt K mg "require_name" s_require_name ["text"]
  d_require_new_name : DefAt K mg "require_new_name" s_require_new_name ["text", "earlier"]
  d_checked_columns : DefAt K mg "checked_columns" s_checked_columns ["columns"]
  d_checked_rows : DefAt K mg "checked_rows" s_checked_rows ["columns", "kind", "states"]
  d_checked_steps : DefAt K mg "checked_steps" s_checked_steps ["size", "steps"]
  d_checked_kinds : DefAt K mg "checked_kinds" s_checked_kinds ["columns", "kinds"]
  z_max : mg "max" = none
  z_min : mg "min" = none
  z_int : mg "int" = none
  z_len : mg "len" = none
  z_range : mg "range" = none
  z_list : mg "list" = none
  z_sorted : mg "sorted" = none
  z_all : mg "all" = none
  z_repr : mg "repr" = none
  g_LETTERS : ∃ t, mg "LETTERS" = some (.str "abcdefghijklmnopqrstuvwxyz" t)
  g_MOST_LETTERS : ∃ t, mg "MOST_LETTERS" = some (.int 8 t)
end Pz
namespace Pz
open PySem L2
open PyProof.Rows (envOfC)
/-! ### frames -/
/-- all but w is as it was -/
def Sm (w : Addr) (H H' : Hp) : Prop := ∀ b o, b ≠ w → H b = some o → H' b = some o
theorem Sm.refl {w : Addr} (H : Hp) : Sm w H H := fun _ _ _ h => h
theorem Sm.trans {w : Addr} {H H1 H2 : Hp} (a : Sm w H H1) (b : Sm w H1 H2) : Sm w H H2 := fun c o n h => b c o n (a c o n h)
theorem Sm.same {w : Addr} {H H' : Hp} (a : Same H H') : Sm w H H' := fun c o _ h => a c o h
theorem Sm.upd {w : Addr} {H : Hp} {o : HO} : Sm w H (upd H w o) := fun c u n h => by rw [upd_ne n]; exact h
theorem Sm.new {w p : Addr} {H H' : Hp} {o : HO} (e : Sm w H H') (h : H p = none) : Sm w H (L2.upd H' p o) := fun c u n q => by
  have hn : c ≠ p := fun z => by rw [z, h] at q; cases q
  rw [upd_ne hn]; exact e c u n q
/-- what is free behind was free ahead -/
theorem Sm.free {w p : Addr} {H H' : Hp} (e : Sm w H H') (hw : H' w ≠ none) (h : H' p = none) : H p = none := by
  cases q : H p with
  | none => rfl
  | some o =>
    by_cases z : p = w
    · subst z; exact absurd h hw
    · rw [e p o z q] at h; cases h
/-- the well: three ints; at most N draws by mixing so far -/
def Wl (H : Hp) (w : Addr) (N : Nat) : Prop := ∃ a b c : Int, H w = some (.lst [.int a, .int b, .int c]) ∧ 0 ≤ a ∧ 0 ≤ b ∧ b < 2 ^ 90 ∧ 0 ≤ c ∧ c ≤ N
theorem Wl.mono {H : Hp} {w : Addr} {N M : Nat} (h : Wl H w N) (le : N ≤ M) : Wl H w M := by
  obtain ⟨a, b, c, h1, h2, h3, h4, h5, h6⟩ := h
  exact ⟨a, b, c, h1, h2, h3, h4, h5, by omega⟩
theorem Wl.ne {H : Hp} {w : Addr} {N : Nat} (h : Wl H w N) : H w ≠ none := by
  obtain ⟨a, b, c, h1, _⟩ := h
  rw [h1]; exact fun q => nomatch q
theorem Wl.same {H H' : Hp} {w : Addr} {N : Nat} (h : Wl H w N) (e : Same H H') : Wl H' w N := by
  obtain ⟨a, b, c, h1, h2⟩ := h
  exact ⟨a, b, c, e _ _ h1, h2⟩
theorem Wl.new {H : Hp} {w p : Addr} {N : Nat} {o : HO} (h : Wl H w N) (hp : H p = none) : Wl (upd H p o) w N := h.same (same_upd hp)
/-- another object is written -/
theorem Wl.put {H : Hp} {w p : Addr} {N : Nat} {o : HO} (h : Wl H w N) (hp : p ≠ w) : Wl (upd H p o) w N := by
  obtain ⟨a, b, c, h1, h2⟩ := h
  exact ⟨a, b, c, by rw [upd_ne (Ne.symm hp)]; exact h1, h2⟩

section
variable {K : PySem.W.Frag} {H : Hp} {Q : VK}
theorem rdL {p : Addr} {xs : List V} {i : Int} {v : V} (h : H p = some (.lst xs)) (ha : atI xs i = some v) (q : Q v H) : rIxL K (.ref p) (.int i) H Q := ⟨p, xs, i, v, rfl, rfl, SqL.of h, ha, q⟩
theorem rdT {p : Addr} {xs : List V} {i : Int} {v : V} (h : H p = some (.tup xs)) (ha : atI xs i = some v) (q : Q v H) : rIxT K (.ref p) (.int i) H Q := ⟨p, xs, i, v, rfl, rfl, SqT.of h, ha, q⟩
end

/-! ### _law_well -/
def spWell : Sp := fun vs H Q _ => ∃ (cell : Int) (k : Int), vs = [.int cell, .int k] ∧ 0 ≤ k ∧ k ≤ 100 ∧ ∀ (p : Addr) (H' : Hp), H p = none → Same H H' → Wl H' p 0 → Q (.ref p) H'
def spDraw : Sp := fun vs H Q _ => ∃ (w : Addr) (n : Int) (N : Nat), vs = [.ref w, .int n] ∧ Wl H w N ∧ N ≤ 1000000000 ∧ 0 < n ∧ n < 2 ^ 100 ∧
  ∀ (r : Int) (H' : Hp), 0 ≤ r → r < n → Sm w H H' → Wl H' w (N + 1) → Q (.int r) H'
section
variable {P : Program} {w : World} {K : PySem.W.Frag} {mg : Str → Option Value} {base : Heap}
theorem e26 : ((10 : Int) ^ (26 : Int).toNat + 711) = 100000000000000000000000711 := by decide +kernel
theorem e28 : ((10 : Int) ^ (28 : Int).toNat + 333) = 10000000000000000000000000333 := by decide +kernel
theorem e24 : ((10 : Int) ^ (24 : Int).toNat + 403) = 1000000000000000000000403 := by decide +kernel
theorem p26 : (0 : Int) < (10 : Int) ^ (26 : Int).toNat + 711 := by decide +kernel
theorem p28 : (0 : Int) < (10 : Int) ^ (28 : Int).toNat + 333 := by decide +kernel
theorem p24 : (0 : Int) < (10 : Int) ^ (24 : Int).toNat + 403 := by decide +kernel
theorem ok_law_well (T : Txt K mg) : Fn P w K mg base 1 "_law_well" ["cell", "k"] spWell := by
  refine T.d_law_well.fn sc_law_well (fun vs H Q E h => ?_) (fun cdv A outer f s H vs Q E hr h => ?_)
  · obtain ⟨cell, k, rfl, _⟩ := h; rfl
  · obtain ⟨cell, k, rfl, k0, k1, q⟩ := h
    refine ⟨_, (pss_cons (ps_set (i := 2) sc_law_well.nd rfl (Or.inl rfl) (pe_callB (call_max2 rfl) (by rfl) T.z_max (by decide +kernel) (pa_cons (pv 0) (pa_cons (pe_op op_sub pe_int (pv 0)) pa_nil)))) (pss_one (ps_ret (pe_lst (pa_cons (pe_callB (call_max2 rfl) (by rfl) T.z_max (by decide +kernel) (pa_cons pe_int (pa_cons (pe_op op_sub (pv 2) (pe_op op_pow pe_int pe_int)) pa_nil))) (pa_cons (pe_op op_mod (pe_callTy call_int1 (by rfl) T.z_int (by decide +kernel) (pa_cons (pe_op op_add (pe_op op_mul (pv 0) pe_int) (pe_op op_mul (pe_op op_add (pv 1) pe_int) pe_int)) pa_nil)) (pe_op op_add (pe_op op_pow pe_int pe_int) pe_int)) (pa_cons pe_int pa_nil))))))), ?_⟩
    refine ⟨_, rfl, _, rfl, _, _, rfl, rfl, _, _, rfl, ?_⟩
    refine ⟨_, rfl, _, _, rfl, rfl, ⟨by decide, by decide, by decide⟩, _, _, rfl, rfl, _, _, rfl, _, rfl, _, _, rfl, rfl, .inr ⟨by decide, by decide⟩, _, rfl, _, _, rfl, rfl, _, _, rfl, rfl, .inr ⟨by decide, by decide⟩, _, _, rfl, rfl, .inl ⟨_, rfl, ?_⟩⟩
    refine ⟨_, _, rfl, rfl, ⟨by decide, by decide, by decide⟩, _, _, rfl, rfl, _, _, rfl, rfl, p26, (show 3 ≤ sizeLine by decide), fun p hp => ?_⟩
    refine q p _ hp (same_upd hp) ⟨_, _, _, upd_same, ?_, ?_, ?_, by decide, by decide⟩
    · split <;> omega
    · exact Int.emod_nonneg _ (by decide +kernel)
    · refine Int.lt_trans (Int.emod_lt_of_pos _ (by decide +kernel)) ?_
      decide +kernel
theorem draw_mod (x n : Int) (h : 0 < n) : 0 ≤ x % n ∧ x % n < n := ⟨Int.emod_nonneg _ (by omega), Int.emod_lt_of_pos _ h⟩
theorem natAbs_lt {i : Int} {b : Nat} (h0 : 0 ≤ i) (h : i < (2 : Int) ^ b) : i.natAbs < 2 ^ b := by
  have h2 : ((i.natAbs : Nat) : Int) = i := Int.natAbs_of_nonneg h0
  have h3 : ((2 ^ b : Nat) : Int) = (2 : Int) ^ b := by norm_cast
  omega
theorem ok_law_draw (T : Txt K mg) : Fn P w K mg base 1 "_law_draw" ["well", "many"] spDraw := by
  refine T.d_law_draw.fn sc_law_draw (fun vs H Q E h => ?_) (fun cdv A outer f s H vs Q E hr h => ?_)
  · obtain ⟨w, n, N, rfl, _⟩ := h; rfl
  · obtain ⟨w, n, N, rfl, ⟨a, b, c, hw, a0, b0, b1, c0, c1⟩, hN, n0, n1, q⟩ := h
    have nb : n.natAbs < 2 ^ 100 := natAbs_lt (by omega) n1
    refine ⟨_, (pss_cons (ps_if (pt_cmpR op_gt (pe_ix ix_list (pv 0) pe_int (fun _ _ => rfl)) pe_int (nomark _)) (pss_cons (ps_set (i := 2) sc_law_draw.nd rfl (Or.inl rfl) (pe_op op_mod (pe_callTy call_int1 (by rfl) T.z_int (by decide +kernel) (pa_cons (pe_ix ix_list (pv 0) pe_int (fun _ _ => rfl)) pa_nil)) (pv 1))) (pss_cons (ps_asg (pe_op op_fdivW (pe_ix ix_list (pv 0) pe_int (fun _ _ => rfl)) (pv 1)) (pg_sub (pv 0) pe_int set_list)) (pss_one (ps_ret (pv 2))))) pss_nil) (pss_cons (ps_asg (pe_op op_add (pe_ix ix_list (pv 0) pe_int (fun _ _ => rfl)) pe_int) (pg_sub (pv 0) pe_int set_list)) (pss_cons (ps_set (i := 3) sc_law_draw.nd rfl (Or.inl rfl) (pe_op op_mod (pe_callTy call_int1 (by rfl) T.z_int (by decide +kernel) (pa_cons (pe_op op_powW (pe_op op_add (pe_ix ix_list (pv 0) pe_int (fun _ _ => rfl)) (pe_op op_mul (pe_ix ix_list (pv 0) pe_int (fun _ _ => rfl)) pe_int)) pe_int) pa_nil)) (pe_op op_add (pe_op op_pow pe_int pe_int) pe_int))) (pss_one (ps_ret (pe_op op_mod (pe_op op_fdivW (pe_op op_mod (pe_callTy call_int1 (by rfl) T.z_int (by decide +kernel) (pa_cons (pe_op op_add (pe_op op_mulW (pv 3) (pv 3)) (pe_op op_fdivW (pv 3) pe_int)) pa_nil)) (pe_op op_add (pe_op op_pow pe_int pe_int) pe_int)) pe_int) (pv 1))))))), ?_⟩
    refine ⟨_, rfl, w, _, _, _, rfl, rfl, SqL.of hw, rfl, _, _, rfl, rfl, _, rfl, ?_⟩
    refine ite2 (fun ha => ?_) (fun ha => ?_)
    · refine ⟨_, rfl, w, _, _, _, rfl, rfl, SqL.of hw, rfl, .inl ⟨_, rfl, ?_⟩⟩
      refine ⟨_, rfl, _, _, rfl, rfl, n0, ?_⟩
      refine ⟨_, rfl, w, _, _, _, rfl, rfl, SqL.of hw, rfl, _, rfl, _, _, rfl, rfl, wide_div n0 nb (by decide) (by decide), _, rfl, w, _, _, _, rfl, rfl, hw, rfl, ?_⟩
      refine ⟨_, rfl, ?_⟩
      refine q _ _ (draw_mod _ _ n0).1 (draw_mod _ _ n0).2 Sm.upd ⟨_, _, _, upd_same, ?_, b0, b1, c0, by omega⟩
      exact Int.ediv_nonneg a0 (by omega)
    · refine ⟨_, rfl, w, _, _, _, rfl, rfl, SqL.of hw, rfl, _, _, rfl, rfl, _, rfl, w, _, _, _, rfl, rfl, hw, rfl, ?_⟩
      have hw2 : upd H w (.lst ([V.int a, V.int b, V.int c].set 2 (V.int (c + 1)))) w = some (.lst [.int a, .int b, .int (c + 1)]) := upd_same
      have hx : (b + (c + 1) * 49979693).natAbs < 2 ^ 91 := natAbs_lt (by omega) (by omega)
      refine ⟨_, rfl, w, _, _, _, rfl, rfl, SqL.of hw2, rfl, _, rfl, w, _, _, _, rfl, rfl, SqL.of hw2, rfl, _, _, rfl, rfl, .inr ⟨by decide, by decide⟩, _, _, rfl, rfl, _, _, rfl, rfl, cpw_of (by decide) (by decide) hx (by decide), .inl ⟨_, rfl, ?_⟩⟩
      refine ⟨_, _, rfl, rfl, ⟨by decide, by decide, by decide⟩, _, _, rfl, rfl, _, _, rfl, rfl, p28, ?_⟩
      have hm0 : 0 ≤ (b + (c + 1) * 49979693) ^ (3 : Int).toNat % (10 ^ (28 : Int).toNat + 333) := Int.emod_nonneg _ (by decide +kernel)
      have hm1 : (b + (c + 1) * 49979693) ^ (3 : Int).toNat % (10 ^ (28 : Int).toNat + 333) < 2 ^ 94 := Int.lt_trans (Int.emod_lt_of_pos _ p28) (by decide +kernel)
      have hmb := natAbs_lt hm0 hm1
      refine ⟨_, rfl, _, rfl, _, _, rfl, rfl, wide_mul hmb hmb (by decide) (by decide) (by decide), _, rfl, _, _, rfl, rfl, wide_div (b := 90) (by decide) (by decide) (by decide) (by decide), _, _, rfl, rfl, .inl ⟨_, rfl, ?_⟩⟩
      refine ⟨_, _, rfl, rfl, ⟨by decide, by decide, by decide⟩, _, _, rfl, rfl, _, _, rfl, rfl, p24, _, _, rfl, rfl, wide_div (b := 90) (by decide) (by decide) (by decide) (by decide), _, rfl, _, _, rfl, rfl, n0, ?_⟩
      exact q _ _ (draw_mod _ _ n0).1 (draw_mod _ _ n0).2 Sm.upd ⟨_, _, _, hw2, a0, b0, b1, by omega, by omega⟩
end
end Pz
namespace Pz
open PySem L2
open PyProof.Rows (envOfC)
section
variable {P : Program} {w : World} {K : PySem.W.Frag} {mg : Str → Option Value} {base : Heap}
/-- a number of at most 14 digits -/
def Nm (r : Int) : Prop := -(10 ^ 13) ≤ r ∧ r ≤ 10 ^ 13
def spNumber : Sp := fun vs H Q _ => ∃ (w : Addr) (far : Int) (N : Nat), vs = [.ref w, .int far] ∧ Wl H w N ∧ N ≤ 100000000 ∧ 0 ≤ far ∧ far ≤ 10 ^ 13 ∧
  ∀ (r : Int) (H' : Hp), Nm r → Sm w H H' → Wl H' w (N + 2) → Q (.int r) H'
theorem ok_law_number (T : Txt K mg) : Fn P w K mg base 2 "_law_number" ["well", "far"] spNumber := by
  have G_law_draw := ok_law_draw (P := P) (w := w) (base := base) T
  refine T.d_law_number.fn sc_law_number (fun vs H Q E h => ?_) (fun cdv A outer f s H vs Q E hr h => ?_)
  · obtain ⟨w, n, N, rfl, _⟩ := h; rfl
  · obtain ⟨w, far, N, rfl, hw, hN, f0, f1, q⟩ := h
    refine ⟨_, (pss_cons (ps_set (i := 2) sc_law_number.nd rfl (Or.inl rfl) (pe_fn G_law_draw (hr.mono (by decide)) (by rfl) (pa_cons (pv 0) (pa_cons pe_int pa_nil)))) (pss_cons (ps_if (pt_cmpR op_eq (pv 2) pe_int (nomark _)) (pss_one (ps_ret pe_int)) pss_nil) (pss_cons (ps_if (pt_cmpR op_eq (pv 2) pe_int (nomark _)) (pss_one (ps_ret (pe_op op_sub (pe_fn G_law_draw (hr.mono (by decide)) (by rfl) (pa_cons (pv 0) (pa_cons (pe_op op_add (pe_op op_mul pe_int (pv 1)) pe_int) pa_nil))) (pv 1)))) pss_nil) (pss_one (ps_ret (pe_op op_sub (pe_fn G_law_draw (hr.mono (by decide)) (by rfl) (pa_cons (pv 0) (pa_cons pe_int pa_nil))) pe_int)))))), ?_⟩
    refine ⟨_, rfl, w, _, N, rfl, hw, by omega, by decide, by decide, fun r H1 r0 r1 s1 w1 => ?_⟩
    refine ⟨_, rfl, rfl, _, rfl, ?_⟩
    refine ite2 (fun c => ?_) (fun c => ?_)
    · exact q _ _ ⟨by decide, by decide⟩ s1 (w1.mono (by omega))
    refine ⟨_, rfl, rfl, _, rfl, ?_⟩
    refine ite2 (fun c => ?_) (fun c => ?_)
    · refine ⟨_, rfl, _, rfl, _, _, rfl, rfl, .inl ⟨by decide, by decide⟩, _, _, rfl, rfl, w, _, N + 1, rfl, w1, by omega, by omega, by omega, fun r H2 r0 r1 s2 w2 => ?_⟩
      refine ⟨_, rfl, _, _, rfl, rfl, ?_⟩
      exact q _ _ ⟨by omega, by omega⟩ (s1.trans s2) w2
    refine ⟨_, rfl, w, _, N + 1, rfl, w1, by omega, by decide, by decide, fun r H2 r0 r1 s2 w2 => ?_⟩
    refine ⟨_, _, rfl, rfl, ?_⟩
    exact q _ _ ⟨by omega, by omega⟩ (s1.trans s2) w2
def spCounts : Sp := fun vs H Q _ => ∃ (w : Addr) (m : Nat) (far : Int) (N : Nat), vs = [.ref w, .int m, .int far] ∧ Wl H w N ∧ N ≤ 10000000 ∧ m ≤ 100 ∧ 0 ≤ far ∧ far ≤ 10 ^ 13 ∧
  ∀ (p : Addr) (ns : List Int) (H' : Hp), H p = none → ns.length = m → (∀ x ∈ ns, Nm x) → Sm w H H' → Wl H' w (N + 2 * m) → H' p = some (.lst (ns.map V.int)) → Q (.ref p) H'
theorem ok_law_counts (T : Txt K mg) : Fn P w K mg base 3 "_law_counts" ["well", "many", "far"] spCounts := by
  have G_law_number := ok_law_number (P := P) (w := w) (base := base) T
  refine T.d_law_counts.fn sc_law_counts (fun vs H Q E h => ?_) (fun cdv A outer f s H vs Q E hr h => ?_)
  · obtain ⟨w, n, far, N, rfl, _⟩ := h; rfl
  · obtain ⟨w, m, far, N, rfl, hw, hN, hm, f0, f1, q⟩ := h
    refine ⟨_, (pss_one (ps_ret (pe_lc (own := [("k", 3)]) (g := gName 3) (by rfl) sc_law_counts.nd (pi_range1 rfl T.z_range (pa_cons (pv 1) pa_nil)) (blkOk_by (own := [("k", 3)]) (N := ["well", "many", "far", "k"]) (sc := defScope s_law_counts) (by decide +kernel)) (fun _ _ _ _ _ => pg_name (i := 3) sc_law_counts.nd rfl (by first | exact Or.inl rfl | exact Or.inr rfl)) (fun _ _ _ _ _ => pts_nil) (fun _ _ _ _ _ => (pe_fn G_law_number (hr.mono (by decide)) (by rfl) (pa_cons (pv 0) (pa_cons (pv 2) pa_nil))))))), ?_⟩
    refine ⟨_, rfl, _, rfl, by omega, by omega, fun D hD => ?_⟩
    have hDw : w ≠ D := fun z => hw.ne (z ▸ hD)
    refine lc_range (lo := 0) (fun i H' => ∃ ns : List Int, ns.length = i ∧ (∀ x ∈ ns, Nm x) ∧ Sm w H H' ∧ Wl H' w (N + 2 * i) ∧ H' D = some (.lst (ns.map V.int)))
      ⟨[], rfl, (fun x hx => nomatch hx), Sm.new (Sm.refl H) hD, hw.new hD, upd_same⟩ (fun i H' hi h => ?_) (fun H' h => ?_)
    · obtain ⟨ns, el, hn, sm, wl, hl⟩ := h
      have hi' : i < m := by omega
      refine ⟨rfl, _, rfl, _, rfl, w, _, N + 2 * i, rfl, wl, by omega, f0, f1, fun r H2 nr s2 w2 => ?_⟩
      have hl2 := s2 D _ (Ne.symm hDw) hl
      refine ⟨_, hl2, by rw [List.length_map]; exact small1000 (by omega), ns ++ [r], by simp [el], ?_, ?_, ?_, ?_⟩
      · intro x hx
        rcases List.mem_append.mp hx with hx | hx
        · exact hn x hx
        · rw [List.mem_singleton.mp hx]; exact nr
      · exact Sm.new (sm.trans s2) hD
      · exact (w2.put (Ne.symm hDw)).mono (by omega)
      · rw [upd_same, List.map_append]; rfl
    · obtain ⟨ns, el, hn, sm, wl, hl⟩ := h
      have em : (m : Int).toNat = m := by omega
      exact q D ns H' hD (by omega) hn sm (by rw [em] at wl; exact wl) hl
end
end Pz
namespace Pz
open PySem L2
open PyProof.Rows (envOfC)
/-! ### names -/
abbrev LET : List Nat := ("abcdefghijklmnopqrstuvwxyz" : Str).cps.toList
def isNm (s : Str) : Bool := decide (1 ≤ s.length) && decide (s.length ≤ 8) && s.cps.toList.all fun c => decide (c ∈ LET)
theorem isNm_len {s : Str} (h : isNm s = true) : 1 ≤ s.length ∧ s.length ≤ 8 := by
  unfold isNm at h
  simp only [Bool.and_eq_true, decide_eq_true_eq] at h
  exact h.1
theorem nm_ok {s : Str} (h : isNm s = true) : PyData.strOk s = true := by
  unfold isNm at h
  simp only [Bool.and_eq_true, decide_eq_true_eq, List.all_eq_true] at h
  have key : ∀ c ∈ LET, c < 0x110000 := by decide +kernel
  have : ∀ c ∈ s.cps.toList, c < 0x110000 := fun c hc => key c (h.2 c hc)
  unfold PyData.strOk
  rw [← Array.all_toList, List.all_eq_true]
  exact fun c hc => decide_eq_true (this c hc)
theorem eqV_str (a b : Str) : eqV (.str a) (.str b) = decide (a = b) := by
  show (a == b) = _
  by_cases h : a = b
  · subst h; simp
  · rw [decide_eq_false h]; exact beq_eq_false_iff_ne.mpr h
theorem inV_strs (s : Str) : ∀ xs : List Str, inV (.str s) (xs.map V.str) = decide (s ∈ xs)
  | [] => by simp [inV]
  | x :: xs => by
    have ih := inV_strs s xs
    unfold inV at ih ⊢
    rw [List.map_cons, List.any_cons, ih, eqV_str]
    by_cases h : x = s
    · subst h; simp
    · rw [decide_eq_false h, Bool.false_or]
      by_cases h2 : s ∈ xs
      · simp [h2]
      · simp [h2, Ne.symm h]
theorem flat_strs (xs : List Str) : (xs.map V.str).all flatV = true := by
  rw [List.all_map, List.all_eq_true]
  exact fun _ _ => rfl
/-- a dict whose keys are names -/
def eNames (xs : List Str) : List (Key × V) := xs.map fun x => (Sum.inr x, V.bl true)
theorem valV_eNames (z : Str) : ∀ xs : List Str, (valV (eNames xs) (Sum.inr z)).isSome = decide (z ∈ xs)
  | [] => by simp [eNames, valV]
  | x :: xs => by
    have ih := valV_eNames z xs
    by_cases h : x = z
    · have e : valV (eNames (x :: xs)) (Sum.inr z) = some (V.bl true) := valV_pos (by rw [h])
      rw [e, h]; simp
    · have e : valV (eNames (x :: xs)) (Sum.inr z) = valV (eNames xs) (Sum.inr z) := valV_neg (p := (Sum.inr x, V.bl true)) (by simpa using h)
      rw [e, ih]
      by_cases h2 : z ∈ xs
      · simp [h2]
      · simp [h2, Ne.symm h]
theorem putK_eNames {xs : List Str} {z : Str} (h : z ∉ xs) : putK (eNames xs) (Sum.inr z) (V.bl true) = eNames (xs ++ [z]) := by
  rw [putK_new, eNames, eNames, List.map_append]
  · rfl
  · have := valV_eNames z xs
    rw [decide_eq_false h] at this
    cases q : valV (eNames xs) (Sum.inr z) with
    | none => rfl
    | some u => rw [q] at this; cases this
theorem keys_eNames (xs : List Str) : (eNames xs).map (fun kv => kV kv.1) = xs.map V.str := by
  unfold eNames
  rw [List.map_map]
  rfl
theorem len_eNames (xs : List Str) : (eNames xs).length = xs.length := by simp [eNames]
section
variable {P : Program} {w : World} {K : PySem.W.Frag} {mg : Str → Option Value} {base : Heap}
def spIsName : Sp := fun vs H Q _ => ∃ s : Str, vs = [.str s] ∧ s.length ≤ 100000 ∧ ∀ H', Same H H' → Q (.bl (isNm s)) H'
theorem ok_is_name (T : Txt K mg) : Fn P w K mg base 1 "is_name" ["text"] spIsName := by
  obtain ⟨tL, hL⟩ := T.g_LETTERS
  obtain ⟨tM, hM⟩ := T.g_MOST_LETTERS
  refine T.d_is_name.fn sc_is_name (fun vs H Q E h => ?_) (fun cdv A outer f s H vs Q E hr h => ?_)
  · obtain ⟨_, rfl, _⟩ := h; rfl
  · obtain ⟨z, rfl, hz, q⟩ := h
    refine ⟨_, (pss_one (ps_ret (pe_and (pe_chain op_le op_le pe_int (pe_callB call_len_str (by rfl) T.z_len (by decide +kernel) (pa_cons (pv 0) pa_nil)) (pe_glob (v := .int 8) rfl hM ⟨_, rfl⟩)) (pe_one (pe_callB (cr_all rfl) (by rfl) T.z_all (by decide +kernel) (pa_cons (pe_lc (own := [("sign", 1)]) (g := gName 1) (by rfl) sc_is_name.nd (pi_str (pv 0)) (blkOk_by (own := [("sign", 1)]) (N := ["text", "sign"]) (sc := defScope s_is_name) (by decide +kernel)) (fun _ _ _ _ _ => pg_name (i := 1) sc_is_name.nd rfl (by first | exact Or.inl rfl | exact Or.inr rfl)) (fun _ _ _ _ _ => pts_nil) (fun _ _ _ _ _ => (pe_cmpR op_in_sign (pv 1) (pe_glob (v := .str "abcdefghijklmnopqrstuvwxyz") rfl hL ⟨_, rfl⟩) (by rfl)))) pa_nil)))))), ?_⟩
    refine ⟨_, rfl, _, rfl, Nat.le_trans hz (by decide), _, _, rfl, rfl, _, rfl, ?_⟩
    have no : ∀ H', Same H H' → ¬ ((1 : Int) ≤ (z.length : Int) ∧ (z.length : Int) ≤ 8) → Q (.bl false) H' := fun H' s1 hn => by
      have e : isNm z = false := by
        unfold isNm
        rw [show (decide (1 ≤ z.length) && decide (z.length ≤ 8)) = false from ?_]
        · rfl
        · rw [← Bool.not_eq_true, Bool.and_eq_true, decide_eq_true_eq, decide_eq_true_eq]
          omega
      rw [← e]
      exact q H' s1
    refine ite2 (fun c1 => ?_) (fun c1 => ?_)
    · have c1' : (1 : Int) ≤ (z.length : Int) := by simpa using c1
      refine ⟨_, _, rfl, rfl, _, rfl, ?_⟩
      refine ite2 (fun c2 => ?_) (fun c2 => ?_)
      · have c2' : (z.length : Int) ≤ 8 := by simpa using c2
        refine ⟨_, rfl, _, rfl, fun D hD => ?_⟩
        refine lc_it walk_str (fun i H' => (∀ b o, b ≠ D → H b = some o → H' b = some o) ∧ H' D = some (.lst ((z.cps.toList.take i).map fun c => V.bl (decide (c ∈ LET)))))
          ⟨fun b o n e => by rw [upd_ne n]; exact e, upd_same⟩ (fun _ _ _ _ => trivial) ?_ ?_
        · rintro i x H1 H2 hi ⟨s1, hD1⟩ ⟨rfl, c, hc, rfl⟩
          refine ⟨rfl, ?_⟩
          refine ⟨_, rfl, c, _, rfl, rfl, _, hD1, ?_, ?_, ?_⟩
          · rw [List.length_map, List.length_take]
            have : z.cps.toList.length = z.length := by simp [Str.length]
            exact small1000 (by omega)
          · exact fun b o n e => by rw [upd_ne n]; exact s1 b o n e
          · rw [upd_same, List.take_add_one, List.map_append]
            have e2 : z.cps.toList[i]? = some c := by simpa using hc
            rw [e2]
            rfl
        · rintro H1 ⟨s1, hD1⟩
          rw [List.take_of_length_le (by simp)] at hD1
          refine ⟨D, z.cps.toList.map fun c => decide (c ∈ LET), rfl, SqL.of (by rw [hD1, List.map_map]; rfl), ?_⟩
          have e : (z.cps.toList.map fun c => decide (c ∈ LET)).all id = isNm z := by
            unfold isNm
            rw [decide_eq_true (by omega), decide_eq_true (by omega), List.all_map]
            rfl
          rw [e]
          refine q H1 fun b o e => ?_
          exact s1 b o (fun z => by rw [z, hD] at e; cases e) e
      · exact no H (Same.refl H) (fun h => c2 (by simpa using h.2))
    · refine ⟨_, rfl, ?_⟩
      exact no H (Same.refl H) (fun h => c1 (by simpa using h.1))
def spReqName : Sp := fun vs H Q _ => ∃ s : Str, vs = [.str s] ∧ isNm s = true ∧ ∀ H', Same H H' → Q .non H'
theorem ok_require_name (T : Txt K mg) : Fn P w K mg base 2 "require_name" ["text"] spReqName := by
  have G_is_name := ok_is_name (P := P) (w := w) (base := base) T
  refine T.d_require_name.fn sc_require_name (fun vs H Q E h => ?_) (fun cdv A outer f s H vs Q E hr h => ?_)
  · obtain ⟨_, rfl, _⟩ := h; rfl
  · obtain ⟨z, rfl, hn, q⟩ := h
    refine ⟨_, (pss_one (ps_if (pt_not (pt_val (pe_fn G_is_name (hr.mono (by decide)) (by rfl) (pa_cons (pv 0) pa_nil)))) (pss_one ps_never) pss_nil)), ?_⟩
    refine ⟨_, rfl, z, rfl, Nat.le_trans (isNm_len hn).2 (by decide), fun H1 s1 => ⟨_, rfl, ?_⟩⟩
    rw [hn]
    exact q H1 s1
end
end Pz
namespace Pz
open PySem L2
open PyProof.Rows (envOfC)
section
variable {P : Program} {w : World} {K : PySem.W.Frag} {mg : Str → Option Value} {base : Heap}
def spReqNew : Sp := fun vs H Q _ => ∃ (s : Str) (a : Addr) (ear : List Str), vs = [.str s, .ref a] ∧ isNm s = true ∧ H a = some (.dK (eNames ear)) ∧ s ∉ ear ∧ ∀ H', Same H H' → Q .non H'
theorem ok_require_new_name (T : Txt K mg) : Fn P w K mg base 3 "require_new_name" ["text", "earlier"] spReqNew := by
  have G_require_name := ok_require_name (P := P) (w := w) (base := base) T
  refine T.d_require_new_name.fn sc_require_new_name (fun vs H Q E h => ?_) (fun cdv A outer f s H vs Q E hr h => ?_)
  · obtain ⟨_, _, _, rfl, _⟩ := h; rfl
  · obtain ⟨z, a, ear, rfl, hn, ha, hin, q⟩ := h
    refine ⟨_, (pss_cons (ps_expr (pe_fn G_require_name (hr.mono (by decide)) (by rfl) (pa_cons (pv 0) pa_nil))) (pss_one (ps_if (pt_cmp (pc_din (hu_of hr) (pv 0) (pv 1))) (pss_one ps_never) pss_nil))), ?_⟩
    refine ⟨_, rfl, z, rfl, hn, fun H1 s1 => ?_⟩
    refine ⟨_, rfl, _, rfl, a, _, rfl, DGet.k (k := Sum.inr z) (s1 _ _ ha), _, rfl, ?_⟩
    rw [valV_eNames, decide_eq_false hin]
    exact q H1 s1
def spColumns : Sp := fun vs H Q _ => ∃ (a : Addr) (cols : List Str), vs = [.ref a] ∧ H a = some (.lst (cols.map V.str)) ∧ cols.Nodup ∧ cols.length ≤ 100 ∧ (∀ c ∈ cols, isNm c = true) ∧
  ∀ p H', H p = none → Same H H' → H' p = some (.lst (cols.map V.str)) → Q (.ref p) H'
theorem ok_checked_columns (T : Txt K mg) : Fn P w K mg base 4 "checked_columns" ["columns"] spColumns := by
  have G_require_new_name := ok_require_new_name (P := P) (w := w) (base := base) T
  refine T.d_checked_columns.fn sc_checked_columns (fun vs H Q E h => ?_) (fun cdv A outer f s H vs Q E hr h => ?_)
  · obtain ⟨_, _, rfl, _⟩ := h; rfl
  · obtain ⟨a, cols, rfl, ha, hnd, hlen, hnm, q⟩ := h
    refine ⟨_, (pss_cons (ps_set (i := 1) sc_checked_columns.nd rfl (Or.inl rfl) pe_dnewK) (pss_cons (ps_for PassesOwn.never rfl (pi_list (pv 0)) (pg_name (i := 2) sc_checked_columns.nd rfl (Or.inl rfl)) (pss_cons (ps_expr (pe_fn G_require_new_name (hr.mono (by decide)) (by rfl) (pa_cons (pv 2) (pa_cons (pv 1) pa_nil)))) (pss_one (ps_dput (hu_of hr) (pv 1) (pv 2) pe_bl rfl)))) (pss_one (ps_ret (pe_callTy (call_listD rfl) (by rfl) T.z_list (by decide +kernel) (pa_cons (pv 1) pa_nil)))))), ?_⟩
    intro D hD
    have naD : a ≠ D := ne_of_none ha hD
    refine ⟨_, rfl, a, rfl, ⟨_, SqL.of (by rw [upd_ne naD]; exact ha)⟩, for_list (K := K) (a := a) (xs := cols.map V.str)
      (fun i σ H' => ∃ v, σ = [some (.ref a), some (.ref D), v] ∧ Same H H' ∧ H' D = some (.dK (eNames (cols.take i))))
      ⟨_, rfl, same_upd hD, upd_same⟩ (fun i σ H' _ ⟨_, _, s1, _⟩ => SqL.of (s1 _ _ ha)) ?_ ?_⟩
    · rintro i x σ H' hx ⟨v, rfl, s1, hD1⟩
      rw [List.getElem?_map] at hx
      obtain ⟨c, hc, rfl⟩ := Option.map_eq_some_iff.mp hx
      have hi := (List.getElem?_eq_some_iff.mp hc).1
      have nin : c ∉ cols.take i := by
        intro hm
        obtain ⟨j, hj, ej⟩ := List.mem_take_iff_getElem.mp hm
        have := nodup_ix hnd (List.getElem?_eq_getElem (show j < cols.length by omega)) (by rw [ej]; exact hc)
        omega
      refine ⟨_, rfl, _, rfl, c, D, _, rfl, hnm c (List.mem_of_getElem? hc), hD1, nin, fun H2 s2 => ?_⟩
      refine ⟨_, rfl, _, rfl, D, _, rfl, DPut.k (k := Sum.inr c) (s2 _ _ hD1) ?_, ?_⟩
      · rw [len_eNames, List.length_take]; exact small1000 (by omega)
      refine ⟨_, rfl, ?_, ?_⟩
      · exact fun b o e => by rw [upd_ne (ne_of_none e hD)]; exact s2 _ _ (s1 _ _ e)
      · rw [upd_same, putK_eNames nin, List.take_add_one, hc]; rfl
    · rintro σ H' ⟨v, rfl, s1, hD1⟩
      rw [List.length_map, List.take_of_length_le (Nat.le_refl _)] at hD1
      refine ⟨_, rfl, D, _, rfl, .inl hD1, fun p hp => ?_⟩
      rw [keys_eNames]
      exact q p _ (same_none s1 hp) (s1.trans (same_upd hp)) upd_same
end
end Pz
namespace Pz
open PySem L2
open PyProof.Rows (envOfC)
/-! ### sums read, kinds -/
structure KD where
  name : Str
  rows : List (List Int)
  sums : List (List (Str × Int))
  steps : List (Str × Int × Int)
def zeros (cols : List Str) : List Int := List.replicate cols.length 0
/-- a sum over the columns: its dict -/
def GoodS (cols : List Str) (tb : List (Str × Int)) : Prop := tb.length < 64 ∧ ∀ p ∈ tb, p.1 ∈ cols
structure GoodC (cols : List Str) : Prop where
  nd : cols.Nodup
  len : cols.length ≤ 20
  nm : ∀ c ∈ cols, isNm c = true
structure GoodK (cols : List Str) (k : KD) : Prop where
  nm : isNm k.name = true
  ne : 0 < k.sums.length
  len : k.sums.length ≤ 40
  sums : ∀ tb ∈ k.sums, GoodS cols tb
  rows : k.rows = k.sums.map fun tb => cols.map (look tb)
  zero : k.rows[0]? = some (zeros cols)
  slen : k.steps.length ≤ 40
  stp : ∀ s ∈ k.steps, isNm s.1 = true ∧ 0 ≤ s.2.1 ∧ s.2.1 < k.sums.length ∧ 0 ≤ s.2.2 ∧ s.2.2 < k.sums.length
  snd : (k.steps.map fun s => (s.1, s.2.1)).Nodup
def dKind (k : KD) : PyData := .tuple [.str k.name, dRows k.rows, .list (k.steps.map dStep)]
/-- a kind as it is passed: in the heap, its steps' tuples in the frozen part -/
def HK (F H : Hp) (k : KD) (v : V) : Prop := ∃ t st sp xs, v = .ref t ∧ H t = some (.tup [.str k.name, .ref st, .ref sp]) ∧ R H (.list (k.sums.map dSum)) (.ref st) ∧ H sp = some (.lst xs) ∧ RA F (k.steps.map dStep) xs
theorem HK.mono {F F' H H' : Hp} {k : KD} {v : V} (h : HK F H k v) (f : Same F F') (e : Same H H') : HK F' H' k v := by
  obtain ⟨t, st, sp, xs, rfl, h1, h2, h3, h4⟩ := h
  exact ⟨t, st, sp, xs, rfl, e _ _ h1, R.mono e _ _ h2, e _ _ h3, RA.mono f _ _ h4⟩
def HKs (F H : Hp) (ks : List KD) (xs : List V) : Prop := xs.length = ks.length ∧ ∀ (i : Nat) (k : KD) (x : V), ks[i]? = some k → xs[i]? = some x → HK F H k x
theorem HKs.mono {F F' H H' : Hp} {ks : List KD} {xs : List V} (h : HKs F H ks xs) (f : Same F F') (e : Same H H') : HKs F' H' ks xs := ⟨h.1, fun i k x a b => (h.2 i k x a b).mono f e⟩
section
variable {P : Program} {w : World} {K : PySem.W.Frag} {mg : Str → Option Value} {base : Heap}
def spNumbersOf : Sp := fun vs H Q _ => ∃ (c t : Addr) (cols : List Str) (tb : List (Str × Int)), vs = [.ref c, .ref t] ∧ H c = some (.lst (cols.map V.str)) ∧ H t = some (.dK (eSum tb)) ∧ cols.length ≤ 20 ∧ GoodS cols tb ∧
  ∀ (p : Addr) (H' : Hp), H p = none → Same H H' → H' p = some (.lst ((cols.map (look tb)).map V.int)) → Q (.ref p) H'
theorem ok_numbers_of (T : Txt K mg) : Fn P w K mg base 1 "numbers_of" ["columns", "table"] spNumbersOf := by
  refine T.d_numbers_of.fn sc_numbers_of (fun vs H Q E h => ?_) (fun cdv A outer f s H vs Q E hr h => ?_)
  · obtain ⟨_, _, _, _, rfl, _⟩ := h; rfl
  · obtain ⟨c, t, cols, tb, rfl, hc, ht, hlen, ⟨hl, hk⟩, q⟩ := h
    refine ⟨_, (pss_cons (ps_for PassesOwn.never rfl (pi_list (pe_callB (call_sortedD rfl) (by rfl) T.z_sorted (by decide +kernel) (pa_cons (pv 1) pa_nil))) (pg_name (i := 2) sc_numbers_of.nd rfl (Or.inl rfl)) (pss_one (ps_if (pt_cmpR op_notIn_seq (pv 2) (pv 0) (by rfl)) (pss_one ps_never) pss_nil))) (pss_one (ps_ret (pe_lc (own := [("column", 2)]) (g := gName 2) (by rfl) sc_numbers_of.nd (pi_list (pv 0)) (blkOk_by (own := [("column", 2)]) (N := ["columns", "table", "column"]) (sc := defScope s_numbers_of) (by decide +kernel)) (fun _ _ _ _ _ => pg_name (i := 2) sc_numbers_of.nd rfl (by first | exact Or.inl rfl | exact Or.inr rfl)) (fun _ _ _ _ _ => pts_nil) (fun _ _ _ _ _ => (pe_dget2 (hu_of hr) (pv 1) (pv 2) pe_int ⟨rfl, rfl, rfl, rfl⟩)))))), ?_⟩
    refine ⟨_, rfl, t, eSum tb, tb.map (·.1), rfl, .inl ht, by simp [eSum], by simpa using hl, fun ys p perm _ hp => ?_⟩
    refine ⟨p, rfl, ⟨_, SqL.of upd_same⟩, for_list (K := K) (a := p) (xs := ys.map V.str) (fun i σ H' => ∃ v, σ = [some (.ref c), some (.ref t), v] ∧ H' = upd H p (.lst (ys.map V.str)))
      ⟨_, rfl, rfl⟩ (fun i σ H' _ ⟨_, _, e⟩ => SqL.of (by rw [e]; exact upd_same)) ?_ ?_⟩
    · rintro i x σ H' hx ⟨v, rfl, rfl⟩
      rw [List.getElem?_map] at hx
      obtain ⟨y, hy, rfl⟩ := Option.map_eq_some_iff.mp hx
      have hmem : y ∈ cols := by
        have h1 := perm.mem_iff.mp (List.mem_of_getElem? hy)
        obtain ⟨q, hq, rfl⟩ := List.mem_map.mp h1
        exact hk q hq
      refine ⟨_, rfl, _, rfl, c, _, rfl, .inl (SqL.of (same_upd hp _ _ hc)), rfl, flat_strs cols, _, rfl, ?_⟩
      rw [inV_strs, decide_eq_true hmem]
      exact ⟨_, rfl, rfl⟩
    · rintro σ H' ⟨v, rfl, rfl⟩
      have s1 : Same H (upd H p (.lst (ys.map V.str))) := same_upd hp
      refine ⟨_, rfl, c, rfl, ⟨_, SqL.of (s1 _ _ hc)⟩, fun D hD => ?_⟩
      refine lc_data (K := K) (a := c) (xs := cols.map V.str) (F0 := fun _ => none) ((cols.map (look tb)).map .int) (by simp) (by rw [List.length_map]; omega) (SqL.of (s1 _ _ hc)) hD (fun b o z => by cases z) (fun i x d F' H' Q' hx hd s2 gr _ _ k => ?_) (fun F' H' ys' s2 _ _ ra hD' => ?_)
      · rw [List.getElem?_map] at hx
        obtain ⟨y, hy, rfl⟩ := Option.map_eq_some_iff.mp hx
        rw [List.map_map, List.getElem?_map, hy] at hd
        cases hd
        have ht2 := s2 _ _ (s1 _ _ ht)
        refine ⟨rfl, _, rfl, t, rfl, .inl ⟨_, .inl ht2⟩, _, rfl, _, DGet.k (k := Sum.inr y) ht2, ?_⟩
        have e : (valV (eSum tb) (Sum.inr y)).getD (V.int 0) = V.int (look tb y) := valV_eSum y tb
        rw [e]
        exact k _ _ _ (Same.refl _) (Gr.refl gr.sub) (by show R F' (.int (look tb y)) (.int (look tb y)); simp only [R])
      · rw [RA.ints_eq ra] at hD'
        exact q D H' (same_none s1 hD) (s1.trans s2) hD'
def spRows : Sp := fun vs H Q _ => ∃ (c st : Addr) (cols : List Str) (nm : Str) (sums : List (List (Str × Int))) (F : Hp), vs = [.ref c, .str nm, .ref st] ∧ H c = some (.lst (cols.map V.str)) ∧ R H (.list (sums.map dSum)) (.ref st) ∧ cols.length ≤ 20 ∧
  0 < sums.length ∧ sums.length ≤ 40 ∧ (∀ tb ∈ sums, GoodS cols tb) ∧ (∀ tb, sums[0]? = some tb → cols.map (look tb) = zeros cols) ∧ Same F H ∧
  ∀ (p : Addr) (H' F' : Hp), H p = none → Same H H' → Gr F H F' H' → R F' (dRows (sums.map fun tb => cols.map (look tb))) (.ref p) → Q (.ref p) H'
theorem ok_checked_rows (T : Txt K mg) : Fn P w K mg base 2 "checked_rows" ["columns", "kind", "states"] spRows := by
  have G_numbers_of := ok_numbers_of (P := P) (w := w) (base := base) T
  refine T.d_checked_rows.fn sc_checked_rows (fun vs H Q E h => ?_) (fun cdv A outer f s H vs Q E hr h => ?_)
  · obtain ⟨_, _, _, _, _, _, rfl, _⟩ := h; rfl
  · obtain ⟨c, st, cols, nm, sums, F, rfl, hc, hst, hlen, hne, hsl, hg, hz, sF, q⟩ := h
    refine ⟨_, (pss_cons (ps_if (pt_not (pt_truth (pv 2) (by intro _; rfl))) (pss_one ps_never) pss_nil) (pss_cons (ps_setLc (i := 3) (own := [("counts", 4)]) (g := gName 4) (by rfl) sc_checked_rows.nd rfl rfl (sw_true rfl rfl rfl (by decide +kernel)) (pi_list (pv 2)) (blkOk_by (own := [("counts", 4)]) (N := ["columns", "kind", "states", "rows", "counts"]) (sc := defScope s_checked_rows) (by decide +kernel)) (fun _ _ _ _ _ => pg_name (i := 4) sc_checked_rows.nd rfl (by first | exact Or.inl rfl | exact Or.inr rfl)) (fun _ _ _ _ _ => pts_nil) (fun _ _ _ _ _ => (pe_fn G_numbers_of (hr.mono (by decide)) (by rfl) (pa_cons (pv 0) (pa_cons (pv 4) pa_nil))))) (pss_cons (ps_if (pt_cmpR (op_neD hr.units) (pe_ix ix_list (pv 3) pe_int (fun _ _ => rfl)) (pe_op op_rep (pe_lst (pa_cons pe_int pa_nil)) (pe_callB call_len_seq (by rfl) T.z_len (by decide +kernel) (pa_cons (pv 0) pa_nil))) (nomark _)) (pss_one ps_never) pss_nil) (pss_one (ps_ret (pv 3)))))), ?_⟩
    obtain ⟨a, xs, ea, hxs, hra⟩ := R_list.mp hst
    cases ea
    have hxl : xs.length = sums.length := by rw [RA.len hra, List.length_map]
    have xne : xs.isEmpty = false := by
      cases xs with
      | nil => simp at hxl; omega
      | cons x r => rfl
    refine ⟨_, rfl, _, .inl ⟨xs, SqL.of hxs, rfl⟩, ?_⟩
    rw [xne]
    refine ⟨_, rfl, st, rfl, ⟨_, SqL.of hxs⟩, fun D hD => ?_⟩
    refine lc_data (K := K) (a := st) (xs := xs) (F0 := F) ((sums.map fun tb => cols.map (look tb)).map dInts) (by simp [hxl]) (by omega) (SqL.of hxs) hD sF (fun i x d F' H' Q' hx hd s2 gr nD fD k => ?_) (fun F' H' ys s2 gr fD ra hD' => ?_)
    · have hi : i < sums.length := by rw [← hxl]; exact (List.getElem?_eq_some_iff.mp hx).1
      have hsi : sums[i]? = some sums[i] := List.getElem?_eq_getElem hi
      rw [List.map_map, List.getElem?_map, hsi] at hd
      cases hd
      obtain ⟨x', hx', hR⟩ := RA.at hra (show (sums.map dSum)[i]? = some (dSum sums[i]) by rw [List.getElem?_map, hsi]; rfl)
      rw [hx] at hx'
      cases hx'
      obtain ⟨t, rfl, ht⟩ := R_dSum.mp hR
      refine ⟨rfl, _, rfl, _, rfl, c, t, cols, sums[i], rfl, s2 _ _ hc, s2 _ _ ht, hlen, hg _ (List.getElem_mem hi), fun p H4 hp s4 h4 => ?_⟩
      exact k _ _ _ s4 (Gr.one (gr.sub.trans s4) hp h4) (R_dInts.mpr ⟨p, rfl, upd_same⟩)
    · have raH := RA.mono gr.sub _ _ ra
      obtain ⟨tb0, e0⟩ : ∃ tb, sums[0]? = some tb := ⟨sums[0], List.getElem?_eq_getElem hne⟩
      obtain ⟨y0, ey0, hy0⟩ := RA.at raH (show ((sums.map fun tb => cols.map (look tb)).map dInts)[0]? = some (dInts (cols.map (look tb0))) by rw [List.map_map, List.getElem?_map, e0]; rfl)
      rw [hz tb0 e0] at hy0
      have len0 : (0 : Int) < (ys.length : Int) := by have := RA.len ra; simp only [List.length_map] at this; omega
      refine ⟨_, rfl, D, ys, 0, y0, rfl, rfl, SqL.of hD', atI_nat (j := 0) ey0, (show 1 ≤ sizeLine by decide), fun p2 hp2 => ?_⟩
      have s3 : Same H' (upd H' p2 (.lst [V.int 0])) := same_upd hp2
      refine ⟨_, rfl, c, _, rfl, .inl (SqL.of (s3 _ _ (s2 _ _ hc))), p2, _, [V.int 0], rfl, rfl, upd_same, by rw [List.length_map]; omega, by rw [List.length_map]; omega, ?_, fun p3 hp3 => ?_⟩
      · rw [List.length_map]
        show 1 * ((cols.length : Int).toNat) ≤ sizeLine
        exact Nat.le_trans (show 1 * ((cols.length : Int).toNat) ≤ 20 by omega) (by decide)
      have ez : (List.replicate ((cols.map V.str).length : Int).toNat [V.int 0]).flatten = (zeros cols).map V.int := by
        rw [List.length_map]
        show (List.replicate cols.length [V.int 0]).flatten = _
        unfold zeros
        rw [List.map_replicate]
        generalize cols.length = n
        induction n with
        | zero => rfl
        | succ n ih => rw [List.replicate_succ, List.flatten_cons, ih, List.replicate_succ]; rfl
      have s4 : Same (upd H' p2 (.lst [V.int 0])) (upd (upd H' p2 (.lst [V.int 0])) p3 (.lst (List.replicate ((cols.map V.str).length : Int).toNat [V.int 0]).flatten)) := same_upd hp3
      refine ⟨dInts (zeros cols), dInts (zeros cols), R.dpp hy0 (s3.trans s4) (plain_dInts _), R.dpp (R_dInts.mpr ⟨p3, rfl, by rw [upd_same, ez]⟩) (Same.refl _) (plain_dInts _), shaped_of (plain_dInts _) (Nat.le_trans (depth_dInts _) (by decide)), shaped_of (plain_dInts _) (Nat.le_trans (depth_dInts _) (by decide)), _, rfl, ?_⟩
      rw [eqv_eq (plain_dInts _) (plain_dInts _) rfl]
      refine ⟨_, rfl, ?_⟩
      have gz := (gr.snoc hD hD').step (s3.trans s4)
      exact q D _ _ hD (s2.trans (s3.trans s4)) gz (R_list.mpr ⟨D, ys, rfl, upd_same, RA.mono (fun b o e => by
        rw [upd_ne (fun z => by rw [z, fD] at e; cases e)]; exact e) _ _ ra⟩)
end
end Pz
namespace Pz
open PySem L2
open PyProof.Rows (envOfC)
theorem iteD {p A B : Prop} [Decidable p] (h : p) (a : A) : if decide p = true then A else B := by
  rw [decide_eq_true h]; exact iteT a
theorem plain_dNSs {l : List (Str × Int)} (h : ∀ s ∈ l, PyData.strOk s.1 = true) : plain (.list (l.map dNS)) = true := by
  simp only [plain]
  exact plainAll_of fun x hx => by obtain ⟨s, hs, rfl⟩ := List.mem_map.mp hx; exact plain_dNS (h s hs)
theorem depth_dNSs (l : List (Str × Int)) : PyData.depth (.list (l.map dNS)) ≤ 64 := by
  have := depthAll_le (n := 1) (xs := l.map dNS) fun x hx => by
    obtain ⟨s, _, rfl⟩ := List.mem_map.mp hx
    simp [dNS, PyData.depth, PyData.depthAll]
  simp only [PyData.depth]
  omega
theorem dNS_inj {a b : Str × Int} (h : dNS a = dNS b) : a = b := by
  obtain ⟨a1, a2⟩ := a
  obtain ⟨b1, b2⟩ := b
  simp only [dNS, PyData.tuple.injEq, List.cons.injEq, PyData.str.injEq, PyData.int.injEq, and_true] at h
  rw [h.1, h.2]
theorem not_mem_take {α : Type} {l : List α} (h : l.Nodup) {i : Nat} {x : α} (e : l[i]? = some x) : x ∉ l.take i := by
  intro hm
  obtain ⟨j, hj, ej⟩ := List.mem_take_iff_getElem.mp hm
  have hj1 : j < l.length := by omega
  have := nodup_ix2 h (show l[j]? = some x by rw [List.getElem?_eq_getElem hj1, ej]) e
  omega
/-- a dict whose keys are the names and starts of steps -/
def kNS (s : Str × Int) : List Key := [Sum.inr s.1, Sum.inl s.2]
theorem kNS_inj {a b : Str × Int} (h : kNS a = kNS b) : a = b := by
  obtain ⟨a1, a2⟩ := a
  obtain ⟨b1, b2⟩ := b
  unfold kNS at h
  injection h with h1 h2
  injection h2 with h2 _
  injection h1 with h1
  injection h2 with h2
  dsimp only at h1 h2
  rw [h1, h2]
def eSteps (l : List (Str × Int)) : List (List Key × V) := l.map fun s => (kNS s, V.bl true)
theorem valV_eSteps (z : Str × Int) : ∀ xs : List (Str × Int), (valV (eSteps xs) (kNS z)).isSome = decide (z ∈ xs)
  | [] => by simp [eSteps, valV]
  | x :: xs => by
    have ih := valV_eSteps z xs
    by_cases h : x = z
    · have e : valV (eSteps (x :: xs)) (kNS z) = some (V.bl true) := valV_pos (p := (kNS x, V.bl true)) (by rw [h])
      rw [e, h]; simp
    · have e : valV (eSteps (x :: xs)) (kNS z) = valV (eSteps xs) (kNS z) := valV_neg (p := (kNS x, V.bl true)) (fun q => h (kNS_inj q))
      rw [e, ih]
      by_cases h2 : z ∈ xs
      · simp [h2]
      · simp [h2, Ne.symm h]
theorem putK_eSteps {xs : List (Str × Int)} {z : Str × Int} (h : z ∉ xs) : putK (eSteps xs) (kNS z) (V.bl true) = eSteps (xs ++ [z]) := by
  rw [putK_new, eSteps, eSteps, List.map_append]
  · rfl
  · have := valV_eSteps z xs
    rw [decide_eq_false h] at this
    cases q : valV (eSteps xs) (kNS z) with
    | none => rfl
    | some u => rw [q] at this; cases this
theorem len_eSteps (xs : List (Str × Int)) : (eSteps xs).length = xs.length := by simp [eSteps]
section
variable {P : Program} {w : World} {K : PySem.W.Frag} {mg : Str → Option Value} {base : Heap}
def spSteps : Sp := fun vs H Q _ => ∃ (n : Int) (st : Addr) (steps : List (Str × Int × Int)) (F : Hp) (xs : List V), vs = [.int n, .ref st] ∧ H st = some (.lst xs) ∧ RA F (steps.map dStep) xs ∧ Same F H ∧ steps.length ≤ 40 ∧
  (∀ s ∈ steps, isNm s.1 = true ∧ 0 ≤ s.2.1 ∧ s.2.1 < n ∧ 0 ≤ s.2.2 ∧ s.2.2 < n) ∧ (steps.map fun s => (s.1, s.2.1)).Nodup ∧
  ∀ (p : Addr) (H' F' : Hp), H p = none → Same H H' → Gr F H F' H' → R F' (.list (steps.map dStep)) (.ref p) → Q (.ref p) H'
theorem ok_checked_steps (T : Txt K mg) : Fn P w K mg base 3 "checked_steps" ["size", "steps"] spSteps := by
  have G_require_name := ok_require_name (P := P) (w := w) (base := base) T
  refine T.d_checked_steps.fn sc_checked_steps (fun vs H Q E h => ?_) (fun cdv A outer f s H vs Q E hr h => ?_)
  · obtain ⟨_, _, _, _, _, rfl, _⟩ := h; rfl
  · obtain ⟨n, st, steps, F, xs, rfl, hst, hra, sF, hlen, hstp, hnd, q⟩ := h
    have hxl : xs.length = steps.length := by rw [RA.len hra, List.length_map]
    refine ⟨_, (pss_cons (ps_set (i := 2) sc_checked_steps.nd rfl (Or.inl rfl) pe_dnewT) (pss_cons (ps_for PassesOwn.never rfl (pi_list (pv 1)) (pg_name (i := 3) sc_checked_steps.nd rfl (Or.inl rfl)) (pss_cons (ps_asg (pv 3) (pg_tup (by rfl) (pgs_cons (pg_name (i := 4) sc_checked_steps.nd rfl (Or.inl rfl)) (pgs_cons (pg_name (i := 5) sc_checked_steps.nd rfl (Or.inl rfl)) (pgs_cons (pg_name (i := 6) sc_checked_steps.nd rfl (Or.inl rfl)) pgs_nil))))) (pss_cons (ps_expr (pe_fn G_require_name (hr.mono (by decide)) (by rfl) (pa_cons (pv 4) pa_nil))) (pss_cons (ps_if (pt_not (PW.pt (pw_and (pt_chain op_le op_lt pe_int (pv 5) (pv 0)) (pw_and1 (pt_chain op_le op_lt pe_int (pv 6) (pv 0)))))) (pss_one ps_never) pss_nil) (pss_cons (ps_if (pt_cmp (pc_din (hu_of hr) (pe_tup (pa_cons (pv 4) (pa_cons (pv 5) pa_nil))) (pv 2))) (pss_one ps_never) pss_nil) (pss_one (ps_dput (hu_of hr) (pv 2) (pe_tup (pa_cons (pv 4) (pa_cons (pv 5) pa_nil))) pe_bl rfl))))))) (pss_one (ps_ret (pe_callTy call_list_of (by rfl) T.z_list (by decide +kernel) (pa_cons (pv 1) pa_nil)))))), ?_⟩
    intro D hD
    have sD : Same H (upd H D (.dT [])) := same_upd hD
    refine ⟨_, rfl, st, rfl, ⟨_, SqL.of (sD _ _ hst)⟩, for_list (K := K) (a := st) (xs := xs)
      (fun i σ H' => ∃ v3 v4 v5 v6, σ = [some (.int n), some (.ref st), some (.ref D), v3, v4, v5, v6] ∧ Same H H' ∧ H' D = some (.dT (eSteps ((steps.take i).map fun (s : Str × Int × Int) => (s.1, s.2.1)))))
      ⟨_, _, _, _, rfl, sD, upd_same⟩ (fun i σ H' _ h => ?_) ?_ ?_⟩
    · obtain ⟨_, _, _, _, _, s1, _⟩ := h
      exact SqL.of (s1 _ _ hst)
    · rintro i x σ H' hx ⟨v3, v4, v5, v6, rfl, s1, hD1⟩
      have hi : i < steps.length := by rw [← hxl]; exact (List.getElem?_eq_some_iff.mp hx).1
      have hsi : steps[i]? = some steps[i] := List.getElem?_eq_getElem hi
      obtain ⟨x', hx', hR⟩ := RA.at hra (show (steps.map dStep)[i]? = some (dStep steps[i]) by rw [List.getElem?_map, hsi]; rfl)
      rw [hx] at hx'
      cases hx'
      obtain ⟨a, rfl, ha⟩ := R_dStep.mp hR
      obtain ⟨hn1, hn2, hn3, hn4, hn5⟩ := hstp _ (List.getElem_mem hi)
      refine ⟨_, rfl, a, _, rfl, SqT.of (s1 _ _ (sF _ _ ha)), rfl, _, _, rfl, _, _, rfl, _, _, rfl, rfl, ?_⟩
      refine ⟨_, rfl, _, rfl, hn1, fun H2 s2 => ?_⟩
      refine ⟨_, rfl, _, _, rfl, rfl, _, rfl, iteD hn2 ⟨_, rfl, _, _, rfl, rfl, _, rfl, iteD hn3 ⟨_, rfl, _, _, rfl, rfl, _, rfl, iteD hn4 ⟨_, rfl, _, _, rfl, rfl, _, rfl, iteNS hn5 ?_⟩⟩⟩⟩
      refine ⟨_, rfl, _, rfl, (show 2 ≤ sizeLine by decide), fun p hp => ?_⟩
      have sH2 : Same H' (upd H2 p (.tup [V.str steps[i].1, V.int steps[i].2.1])) := s2.trans (same_upd hp)
      have nin : (steps[i].1, steps[i].2.1) ∉ (steps.take i).map fun s => (s.1, s.2.1) := by
        rw [List.map_take]
        exact not_mem_take hnd (by rw [List.getElem?_map, hsi]; rfl)
      refine ⟨_, rfl, D, _, rfl, DGet.t (k := kNS (steps[i].1, steps[i].2.1)) (sH2 _ _ hD1) upd_same, _, rfl, ?_⟩
      rw [valV_eSteps, decide_eq_false nin]
      refine ⟨_, rfl, _, rfl, _, rfl, (show 2 ≤ sizeLine by decide), fun p2 hp2 => ?_⟩
      have s3 := sH2.trans (same_upd (o := .tup [V.str steps[i].1, V.int steps[i].2.1]) hp2)
      refine ⟨D, _, rfl, DPut.t (k := kNS (steps[i].1, steps[i].2.1)) (s3 _ _ hD1) upd_same ?_, ?_⟩
      · rw [len_eSteps, List.length_map, List.length_take]; exact small1000 (by omega)
      refine ⟨_, _, _, _, rfl, ?_, ?_⟩
      · exact fun b o e => by
          rw [upd_ne (fun z => by rw [z, hD] at e; cases e)]
          exact s3 _ _ (s1 _ _ e)
      · rw [upd_same, putK_eSteps nin, List.take_add_one, hsi, List.map_append]; rfl
    · rintro σ H' ⟨v3, v4, v5, v6, rfl, s1, hD1⟩
      refine ⟨_, rfl, st, _, rfl, .inl (SqL.of (s1 _ _ hst)), fun p hp => ?_⟩
      have hp' : H p = none := same_none s1 hp
      have g : Gr F H (upd F p (.lst xs)) (upd H' p (.lst xs)) := Gr.one (sF.trans (s1.trans (same_upd hp))) hp' upd_same
      exact q p _ _ hp' (s1.trans (same_upd hp)) g (R_list.mpr ⟨p, xs, rfl, upd_same, RA.mono g.le _ _ hra⟩)
end
end Pz
namespace Pz
open PySem L2
open PyProof.Rows (envOfC)
theorem some_ne {α : Type} {o : Option α} {x : α} (h : o = some x) : o ≠ none := by rw [h]; exact fun q => nomatch q
theorem R_dKind {F : Hp} {k : KD} {v : V} : R F (dKind k) v ↔ ∃ t x y, v = .ref t ∧ F t = some (.tup [.str k.name, x, y]) ∧ R F (dRows k.rows) x ∧ R F (.list (k.steps.map dStep)) y := by
  have e : R F (dKind k) v ↔ ∃ a xs, v = .ref a ∧ F a = some (.tup xs) ∧ RA F [.str k.name, dRows k.rows, .list (k.steps.map dStep)] xs := by
    unfold dKind
    constructor
    · intro h; simpa only [R] using h
    · intro h; simpa only [R] using h
  rw [e]
  constructor
  · rintro ⟨a, xs, rfl, h, hr⟩
    simp only [RA] at hr
    obtain ⟨x1, r1, rfl, h1, x2, r2, rfl, h2, x3, r3, rfl, h3, rfl⟩ := hr
    have h1' : x1 = .str k.name := by simpa only [R] using h1
    subst h1'
    exact ⟨a, x2, x3, rfl, h, h2, h3⟩
  · rintro ⟨a, x, y, rfl, h, h2, h3⟩
    refine ⟨a, _, rfl, h, ?_⟩
    simp only [RA]
    exact ⟨_, _, rfl, by simp only [R], _, _, rfl, h2, _, _, rfl, h3, rfl⟩
section
variable {P : Program} {w : World} {K : PySem.W.Frag} {mg : Str → Option Value} {base : Heap}
def spKinds : Sp := fun vs H Q _ => ∃ (c ks : Addr) (cols : List Str) (kds : List KD) (F : Hp) (xs : List V), vs = [.ref c, .ref ks] ∧ H c = some (.lst (cols.map V.str)) ∧ H ks = some (.lst xs) ∧ HKs F H kds xs ∧ Same F H ∧ cols.length ≤ 20 ∧
  (∀ k ∈ kds, GoodK cols k) ∧ (kds.map (·.name)).Nodup ∧ kds.length ≤ 20 ∧
  ∀ (p : Addr) (H' F' : Hp), H p = none → Same H H' → Gr F H F' H' → R F' (.list (kds.map dKind)) (.ref p) → Q (.ref p) H'
theorem ok_checked_kinds (T : Txt K mg) : Fn P w K mg base 4 "checked_kinds" ["columns", "kinds"] spKinds := by
  have G_require_new_name := ok_require_new_name (P := P) (w := w) (base := base) T
  have G_checked_rows := ok_checked_rows (P := P) (w := w) (base := base) T
  have G_checked_steps := ok_checked_steps (P := P) (w := w) (base := base) T
  refine T.d_checked_kinds.fn sc_checked_kinds (fun vs H Q E h => ?_) (fun cdv A outer f s H vs Q E hr h => ?_)
  · obtain ⟨_, _, _, _, _, _, rfl, _⟩ := h; rfl
  · obtain ⟨c, ks, cols, kds, F, xs, rfl, hc, hks, hk, sF, hcl, hgood, hnd, hlen, q⟩ := h
    refine ⟨_, (pss_cons (ps_set (i := 2) sc_checked_kinds.nd rfl (Or.inl rfl) pe_dnewK) (pss_cons (ps_set (i := 3) sc_checked_kinds.nd rfl (Or.inl rfl) (pe_lst pa_nil)) (pss_cons (ps_for PassesOwn.never rfl (pi_list (pv 1)) (pg_tup (by rfl) (pgs_cons (pg_name (i := 4) sc_checked_kinds.nd rfl (Or.inl rfl)) (pgs_cons (pg_name (i := 5) sc_checked_kinds.nd rfl (Or.inl rfl)) (pgs_cons (pg_name (i := 6) sc_checked_kinds.nd rfl (Or.inl rfl)) pgs_nil)))) (pss_cons (ps_expr (pe_fn G_require_new_name (hr.mono (by decide)) (by rfl) (pa_cons (pv 4) (pa_cons (pv 2) pa_nil)))) (pss_cons (ps_dput (hu_of hr) (pv 2) (pv 4) pe_bl rfl) (pss_cons (ps_set (i := 7) sc_checked_kinds.nd rfl (Or.inl rfl) (pe_fn G_checked_rows (hr.mono (by decide)) (by rfl) (pa_cons (pv 0) (pa_cons (pv 4) (pa_cons (pv 5) pa_nil))))) (pss_one (ps_expr (pe_bm PySem.F.plainAttrs_list PySem.F.slot_list_append PySem.F.type_list_append mt_append (pv 3) (pa_cons (pe_tup (pa_cons (pv 4) (pa_cons (pv 7) (pa_cons (pe_fn G_checked_steps (hr.mono (by decide)) (by rfl) (pa_cons (pe_callB call_len_seq (by rfl) T.z_len (by decide +kernel) (pa_cons (pv 7) pa_nil)) (pa_cons (pv 6) pa_nil))) pa_nil)))) pa_nil)))))))) (pss_one (ps_ret (pv 3)))))), ?_⟩
    intro D1 hD1
    refine ⟨Nat.zero_le _, fun D2 hD2 => ?_⟩
    have s1 : Same H (upd H D1 (.dK [])) := same_upd hD1
    have s2 : Same H (upd (upd H D1 (.dK [])) D2 (.lst [])) := s1.trans (same_upd hD2)
    have n12 : D1 ≠ D2 := fun z => by rw [← z, upd_same] at hD2; cases hD2
    have hD2' : H D2 = none := same_none s1 hD2
    have f1 : F D1 = none := same_none sF hD1
    have f2 : F D2 = none := same_none sF hD2'
    refine ⟨_, rfl, ks, rfl, ⟨_, SqL.of (s2 _ _ hks)⟩, for_list (K := K) (a := ks) (xs := xs)
      (fun i σ H' => ∃ v4 v5 v6 v7 ys F', σ = [some (.ref c), some (.ref ks), some (.ref D1), some (.ref D2), v4, v5, v6, v7] ∧ Same H H' ∧ H' D1 = some (.dK (eNames ((kds.take i).map (·.name)))) ∧ H' D2 = some (.lst ys) ∧
        Gr F H F' H' ∧ F' D1 = none ∧ F' D2 = none ∧ RA F' ((kds.take i).map dKind) ys)
      ⟨_, _, _, _, [], F, rfl, s2, (by rw [upd_ne n12]; exact upd_same), upd_same, ((Gr.refl sF).put f1).put f2, f1, f2, by simp [RA]⟩ (fun i σ H' _ h => ?_) ?_ ?_⟩
    · obtain ⟨_, _, _, _, _, _, _, s', _⟩ := h
      exact SqL.of (s' _ _ hks)
    · rintro i x σ H' hx ⟨v4, v5, v6, v7, ys, F', rfl, s', d1, d2, gr, e1, e2, ra⟩
      have hi : i < kds.length := by rw [← hk.1]; exact (List.getElem?_eq_some_iff.mp hx).1
      have hki : kds[i]? = some kds[i] := List.getElem?_eq_getElem hi
      obtain ⟨t, st, sp, zs, rfl, ht, hst, hsp, hzs⟩ := hk.2 i _ _ hki hx
      have gk := hgood _ (List.getElem_mem hi)
      generalize hkd : kds[i] = k at *
      refine ⟨t, _, rfl, SqT.of (s' _ _ ht), rfl, _, _, rfl, _, _, rfl, _, _, rfl, rfl, ?_⟩
      have nin : k.name ∉ (kds.take i).map (·.name) := by
        rw [List.map_take]
        exact not_mem_take hnd (by rw [List.getElem?_map, hki]; rfl)
      refine ⟨_, rfl, _, rfl, k.name, D1, _, rfl, gk.nm, d1, nin, fun H2 s2' => ?_⟩
      refine ⟨_, rfl, _, rfl, D1, _, rfl, DPut.k (k := Sum.inr k.name) (s2' _ _ d1) ?_, ?_⟩
      · rw [len_eNames, List.length_map, List.length_take]; exact small1000 (by omega)
      rw [putK_eNames nin]
      have sH3 : Same H (upd H2 D1 (.dK (eNames ((kds.take i).map (·.name) ++ [k.name])))) := fun b o e => by
        rw [upd_ne (fun z => by rw [z, hD1] at e; cases e)]
        exact s2' _ _ (s' _ _ e)
      have d2' : (upd H2 D1 (.dK (eNames ((kds.take i).map (·.name) ++ [k.name])))) D2 = some (.lst ys) := by
        rw [upd_ne (Ne.symm n12)]; exact s2' _ _ d2
      have gr3 := (gr.step s2').put (o := .dK (eNames ((kds.take i).map (·.name) ++ [k.name]))) e1
      have d1' : (upd H2 D1 (.dK (eNames ((kds.take i).map (·.name) ++ [k.name])))) D1 = some (.dK (eNames ((kds.take i).map (·.name) ++ [k.name]))) := upd_same
      generalize hH3 : upd H2 D1 (.dK (eNames ((kds.take i).map (·.name) ++ [k.name]))) = H3 at *
      refine ⟨_, rfl, _, rfl, _, rfl, c, st, cols, k.name, k.sums, F', rfl, sH3 _ _ hc, R.mono sH3 _ _ hst, hcl, gk.ne, gk.len, gk.sums, fun tb htb => ?_, gr3.sub, fun p H4 F4 hp s4 g4 hR4 => ?_⟩
      · have := gk.zero
        rw [gk.rows, List.getElem?_map, htb] at this
        exact Option.some.inj this
      have e41 := g4.out e1 (some_ne d1')
      have e42 := g4.out e2 (some_ne d2')
      obtain ⟨_, rs, ep, hrs, hra⟩ := R_list.mp hR4
      cases ep
      have rl : rs.length = k.sums.length := by have := RA.len hra; simp only [List.length_map] at this; exact this
      have sH4 := sH3.trans s4
      refine ⟨_, rfl, .inl ⟨rfl, _, SqL.of (s4 _ _ d2')⟩, _, rfl, _, rfl, _, rfl, p, rs, rfl, .inl (SqL.of (g4.sub _ _ hrs)), _, rfl, _, sp, k.steps, F4, zs, rfl, sH4 _ _ hsp, RA.mono (gr3.le.trans g4.le) _ _ hzs, g4.sub, gk.slen, ?_, gk.snd, fun p5 H5 F5 hp5 s5 g5 hR5 => ?_⟩
      · rw [rl]; exact gk.stp
      refine ⟨(show 3 ≤ sizeLine by decide), fun p6 hp6 => ?_⟩
      have s6 := same_upd (o := .tup [V.str k.name, .ref p, .ref p5]) hp6
      have e51 := g5.out e41 (some_ne (s4 _ _ d1'))
      have e52 := g5.out e42 (some_ne (s4 _ _ d2'))
      have g45 : Gr F H F5 H5 := (gr3.trans g4 (fun z hz => same_none sH3 hz)).trans g5 (fun z hz => same_none sH4 hz)
      have sH5 := sH4.trans s5
      have g6 := (g45.step s6).snoc (same_none sH5 hp6) upd_same
      have n61 : p6 ≠ D1 := fun z => by have := s5 _ _ (s4 _ _ d1'); rw [← z, hp6] at this; cases this
      have n62 : p6 ≠ D2 := fun z => by have := s5 _ _ (s4 _ _ d2'); rw [← z, hp6] at this; cases this
      have yl : ys.length = i := by have := RA.len ra; simp only [List.length_map, List.length_take] at this; omega
      have le6 : Same F5 (upd F5 p6 (.tup [V.str k.name, .ref p, .ref p5])) := fun b o e => by
        rw [upd_ne (fun z => by have := g5.sub _ _ e; rw [z, hp6] at this; cases this)]; exact e
      refine ⟨_, _, _, rfl, rfl, s6 _ _ (s5 _ _ (s4 _ _ d2')), small1000 (by omega), ?_⟩
      refine ⟨_, _, _, _, ys ++ [.ref p6], _, rfl, ?_, ?_, upd_same, g6.put (by rw [upd_ne (Ne.symm n62)]; exact e52), (by rw [upd_ne (Ne.symm n61)]; exact e51), (by rw [upd_ne (Ne.symm n62)]; exact e52), ?_⟩
      · exact fun b o e => by
          rw [upd_ne (fun z => by rw [z, hD2'] at e; cases e)]
          exact s6 _ _ (sH5 _ _ e)
      · rw [upd_ne n12, List.take_add_one, hki, List.map_append]
        exact s6 _ _ (s5 _ _ (s4 _ _ d1'))
      · rw [List.take_add_one, hki, List.map_append]
        refine RA.append (RA.mono ((g4.le.trans g5.le).trans le6) _ _ ra) ?_
        show RA _ [dKind k] _
        simp only [RA]
        refine ⟨_, [], rfl, R_dKind.mpr ⟨p6, .ref p, .ref p5, rfl, upd_same, ?_, R.mono le6 _ _ hR5⟩, rfl⟩
        rw [gk.rows]
        exact R.mono (g5.le.trans le6) _ _ hR4
    · rintro σ H' ⟨v4, v5, v6, v7, ys, F', rfl, s', d1, d2, gr, e1, e2, ra⟩
      rw [hk.1, List.take_of_length_le (Nat.le_refl _)] at ra
      refine ⟨_, rfl, q D2 H' _ hD2' s' (gr.snoc hD2' d2) (R_list.mpr ⟨D2, ys, rfl, upd_same, RA.mono (fun b o e => ?_) _ _ ra⟩)⟩
      rw [upd_ne (fun z => by rw [z, e2] at e; cases e)]
      exact e
end
end Pz
namespace Pz
open PySem L2
open PyProof.Rows (envOfC)
/-! ### the class Plan -/
theorem f_ck : ¬ (("_columns" : Str) = "_kinds") := by decide +kernel
theorem f_ch : ¬ (("_columns" : Str) = "_checks") := by decide +kernel
theorem f_kh : ¬ (("_kinds" : Str) = "_checks") := by decide +kernel
theorem f_kc : ¬ (("_kinds" : Str) = "_columns") := by decide +kernel
/-- its attributes, one after the other -/
def pf1 (c : Addr) : List (Str × V) := putF "_columns" (.ref c) []
def pf2 (c k : Addr) : List (Str × V) := putF "_kinds" (.ref k) (pf1 c)
def pf3 (c k h : Addr) : List (Str × V) := putF "_checks" (.ref h) (pf2 c k)
theorem pf1_c (c : Addr) : (pf1 c).lookup ("_columns" : Str) = some (.ref c) := by unfold pf1; rw [lookup_putF, if_pos rfl]
theorem pf2_c (c k : Addr) : (pf2 c k).lookup ("_columns" : Str) = some (.ref c) := by unfold pf2; rw [lookup_putF, if_neg f_ck]; exact pf1_c c
theorem pf3_c (c k h : Addr) : (pf3 c k h).lookup ("_columns" : Str) = some (.ref c) := by unfold pf3; rw [lookup_putF, if_neg f_ch]; exact pf2_c c k
theorem pf3_k (c k h : Addr) : (pf3 c k h).lookup ("_kinds" : Str) = some (.ref k) := by
  unfold pf3; rw [lookup_putF, if_neg f_kh]; unfold pf2; rw [lookup_putF, if_pos rfl]
theorem pf3_h (c k h : Addr) : (pf3 c k h).lookup ("_checks" : Str) = some (.ref h) := by unfold pf3; rw [lookup_putF, if_pos rfl]
theorem pf1_len (c : Addr) : (pf1 c).length < 1000 := by
  show 1 < 1000
  decide
theorem pf2_len (c k : Addr) : (pf2 c k).length < 1000 := by
  show (if ("_columns" : Str) = "_kinds" then [(("_columns" : Str), V.ref k)] else (("_columns" : Str), V.ref c) :: putF "_kinds" (V.ref k) []).length < 1000
  rw [if_neg f_ck]
  show 2 < 1000
  decide
structure PlanT (K : PySem.W.Frag) (mg : Str → Option Value) (C : Addr) : Prop where
  cl : Cls K C
  nC : NoAttr K C "_columns"
  nK : NoAttr K C "_kinds"
  nH : NoAttr K C "_checks"
  mgP : mg "Plan" = some (.ref C)
  init : ∃ f fd, Mk K C f ∧ Fun K "__init__" "Plan.__init__" s_Planinit f fd ∧ Binds K fd ["self", "columns", "kinds", "checks"] []
  pcol : ∃ p g fd, PropOf K C "columns" p g ∧ Fun K "columns" "Plan.columns" s_Plan_columns g fd ∧ Binds K fd ["self"] []
  pkin : ∃ p g fd, PropOf K C "kinds" p g ∧ Fun K "kinds" "Plan.kinds" s_Plan_kinds g fd ∧ Binds K fd ["self"] []
  pchk : ∃ p g fd, PropOf K C "checks" p g ∧ Fun K "checks" "Plan.checks" s_Plan_checks g fd ∧ Binds K fd ["self"] []
theorem pf3_none {c k h : Addr} {m : Str} (h1 : m ≠ "_columns") (h2 : m ≠ "_kinds") (h3 : m ≠ "_checks") : (pf3 c k h).lookup m = none := by
  unfold pf3; rw [lookup_putF, if_neg h3]; unfold pf2; rw [lookup_putF, if_neg h2]; unfold pf1; rw [lookup_putF, if_neg h1]; rfl
/-- a plan in the frozen part -/
def PlanAt (C : Addr) (F : Hp) (p : Addr) (cols : List Str) (kds : List KD) (chk : List (List Int)) : Prop :=
  ∃ dx c k h, F p = some (.ins C dx (pf3 c k h)) ∧ F c = some (.lst (cols.map V.str)) ∧ R F (.list (kds.map dKind)) (.ref k) ∧ R F (dRows chk) (.ref h)
theorem PlanAt.mono {C : Addr} {F F' : Hp} {p : Addr} {cols : List Str} {kds : List KD} {chk : List (List Int)} (h : PlanAt C F p cols kds chk) (s : Same F F') : PlanAt C F' p cols kds chk := by
  obtain ⟨dx, c, k, hh, h1, h2, h3, h4⟩ := h
  exact ⟨dx, c, k, hh, s _ _ h1, s _ _ h2, R.mono s _ _ h3, R.mono s _ _ h4⟩
structure GoodP (cols : List Str) (kds : List KD) (sums : List (List (Str × Int))) : Prop where
  c : GoodC cols
  k : ∀ k ∈ kds, GoodK cols k
  nd : (kds.map (·.name)).Nodup
  len : kds.length ≤ 20
  s : ∀ tb ∈ sums, GoodS cols tb
  slen : sums.length ≤ 40
/-- a class called, its __init__ known by a promise -/
structure Make (P : Program) (w : World) (K : PySem.W.Frag) (mg : Str → Option Value) (base : Heap) (k : Nat) (C : Addr) (x : Str) (ps : List Str) (sp : Sp) : Prop where
  ex : ∃ f fd, Mk K C f ∧ mg x = some (.ref C) ∧ Binds K fd ps [] ∧ FnOk P w K mg base CX0 k f fd ps sp
theorem pe_mk {X : Cx} {k : Nat} {C : Addr} {x : Str} {ps : List Str} {sp : Sp} {p pos : Pos} {e : Expr} {es : List Expr} {t : TA} (F : Make X.prog X.w X.K X.mg X.base k C x ps sp) (hr : Room (k + 1) X.A) (hg : Gl X x)
    (ha : PA X (e :: es) t) (hdb : (x == ("__debug__" : Str)) = false := by decide) (he : starEach (e :: es) X.env = (false, eval e X.env) :: starEach es X.env := by rfl)
    (hpl : (backTo pos (starEach es X.env)).any (·.1) = false := by rfl) : PE X (.Call (.Name x p) (e :: es) [] pos) (tMake C sp [] E0 t) := by
  obtain ⟨f, fd, a, b, c, d⟩ := F.ex
  exact pe_make a d hr hg b c .nil pass0 ha hdb he hpl
/-- a property, its getter known by a promise -/
structure Prp (P : Program) (w : World) (K : PySem.W.Frag) (mg : Str → Option Value) (base : Heap) (k : Nat) (C : Addr) (x : Str) (sp : Sp) : Prop where
  ex : ∃ p g fd, Cls K C ∧ PropOf K C x p g ∧ Binds K fd ["self"] [] ∧ FnOk P w K mg base CX0 k g fd ["self"] sp
theorem pe_prp {X : Cx} {k : Nat} {C : Addr} {x : Str} {sp : Sp} {pos : Pos} {e : Expr} {ta : TE} (F : Prp X.prog X.w X.K X.mg X.base k C x sp) (hr : Room (k + 1) X.A) (he : PE X e ta)
    (hab : attributeBase e x X.env (eval e X.env) = eval e X.env := by rfl) : PE X (.Attribute e x pos) (tProp C sp [] E0 ta) := by
  obtain ⟨p, g, fd, a, b, c, d⟩ := F.ex
  exact pe_prop he a b d hr c .nil (fun _ _ _ _ _ _ _ z => z.elim) hab
section
variable {P : Program} {w : World} {K : PySem.W.Frag} {mg : Str → Option Value} {base : Heap} {C : Addr}
def spPlanInit (C : Addr) : Sp := fun vs H Q _ => ∃ (H0 : Hp) (p dx c ks hs : Addr) (cols : List Str) (kds : List KD) (sums : List (List (Str × Int))) (F : Hp) (xs : List V),
  vs = [.ref p, .ref c, .ref ks, .ref hs] ∧ H = upd (upd H0 dx (.own p)) p (.ins C dx []) ∧ H0 p = none ∧ H0 dx = none ∧ dx ≠ p ∧ H0 c = some (.lst (cols.map V.str)) ∧ H0 ks = some (.lst xs) ∧ HKs F H0 kds xs ∧
  R H0 (.list (sums.map dSum)) (.ref hs) ∧ Same F H0 ∧ GoodP cols kds sums ∧
  ∀ (H' F' : Hp), Same H0 H' → Gr F H0 F' H' → PlanAt C F' p cols kds (sums.map fun tb => cols.map (look tb)) → Q .non H'
theorem ok_Plan_init (T : Txt K mg) (L : PlanT K mg C) : Make P w K mg base 5 C "Plan" ["self", "columns", "kinds", "checks"] (spPlanInit C) := by
  have G_checked_columns := ok_checked_columns (P := P) (w := w) (base := base) T
  have G_checked_kinds := ok_checked_kinds (P := P) (w := w) (base := base) T
  have G_numbers_of := ok_numbers_of (P := P) (w := w) (base := base) T
  obtain ⟨fa, fd, hM, Fi, hb⟩ := L.init
  refine ⟨fa, fd, hM, L.mgP, hb, Fi.ok sc_Planinit (fun vs H Q E h => ?_) (fun cdv A outer s H vs Q E hr h => ?_)⟩
  · obtain ⟨_, _, _, _, _, _, _, _, _, _, _, rfl, _⟩ := h; rfl
  · obtain ⟨H0, p, dx, c, ks, hs, cols, kds, sums, F, xs, rfl, rfl, hp0, hd0, ndp, hc, hks, hk, hh, sF, good, q⟩ := h
    refine ⟨_, (pss_cons (ps_fld (pv 0) (pe_fn G_checked_columns (hr.mono (by decide)) (by rfl) (pa_cons (pv 1) pa_nil)) (by rfl)) (pss_cons (ps_fld (pv 0) (pe_fn G_checked_kinds (hr.mono (by decide)) (by rfl) (pa_cons (pe_fld (pv 0) (by rfl)) (pa_cons (pv 2) pa_nil))) (by rfl)) (pss_one (ps_fld (pv 0) (pe_lc (own := [("check", 4)]) (g := gName 4) (by rfl) sc_Planinit.nd (pi_list (pv 3)) (blkOk_by (own := [("check", 4)]) (N := ["self", "columns", "kinds", "checks", "check"]) (sc := defScope s_Planinit) (by decide +kernel)) (fun _ _ _ _ _ => pg_name (i := 4) sc_Planinit.nd rfl (by first | exact Or.inl rfl | exact Or.inr rfl)) (fun _ _ _ _ _ => pts_nil) (fun _ _ _ _ _ => (pe_fn G_numbers_of (hr.mono (by decide)) (by rfl) (pa_cons (pe_fldK (K := K) (pv 0) (by rfl)) (pa_cons (pv 4) pa_nil))))) (by rfl))))), ?_⟩
    have s0 : Same H0 (upd (upd H0 dx (.own p)) p (.ins C dx [])) := fun b o e => by
      rw [upd_ne (ne_of_none e hp0), upd_ne (ne_of_none e hd0)]; exact e
    have hp : (upd (upd H0 dx (.own p)) p (.ins C dx [])) p = some (.ins C dx []) := upd_same
    generalize hH : upd (upd H0 dx (.own p)) p (.ins C dx []) = H at *
    have fp : F p = none := same_none sF hp0
    refine ⟨_, rfl, c, cols, rfl, s0 _ _ hc, good.c.nd, Nat.le_trans good.c.len (by decide), good.c.nm, fun q1 H1 hq1 s1 hc1 => ?_⟩
    have hp1 := s1 _ _ hp
    refine ⟨_, rfl, p, C, dx, [], rfl, hp1, L.cl, L.nC, (by show 0 < 1000; decide), ?_⟩
    have np1 : q1 ≠ p := fun z => by rw [z, hp] at hq1; cases hq1
    have sB1 : Same H0 (upd H1 p (.ins C dx (pf1 q1))) := fun b o e => by
      rw [upd_ne (ne_of_none e hp0)]; exact s1 _ _ (s0 _ _ e)
    have c1 : (upd H1 p (.ins C dx (pf1 q1))) q1 = some (.lst (cols.map V.str)) := by rw [upd_ne np1]; exact hc1
    have p1 : (upd H1 p (.ins C dx (pf1 q1))) p = some (.ins C dx (pf1 q1)) := upd_same
    show (tSeq _ _) _ _ (upd H1 p (.ins C dx (pf1 q1)))
    generalize hB1 : upd H1 p (.ins C dx (pf1 q1)) = B1 at *
    have q1n : H0 q1 = none := same_none s0 hq1
    refine ⟨_, rfl, p, C, dx, _, _, rfl, p1, L.cl, L.nC, pf1_c q1, _, rfl, q1, ks, cols, kds, F, xs, rfl, c1, sB1 _ _ hks, hk.mono (Same.refl F) sB1, sF.trans sB1, good.c.len, good.k, good.nd, good.len, fun q2 H2 F2 hq2 s2 g2 hR2 => ?_⟩
    have hp2 := s2 _ _ p1
    refine ⟨_, rfl, p, C, dx, pf1 q1, rfl, hp2, L.cl, L.nK, pf1_len q1, ?_⟩
    have fp2 : F2 p = none := g2.out fp (some_ne p1)
    have sB2 : Same H0 (upd H2 p (.ins C dx (pf2 q1 q2))) := fun b o e => by
      rw [upd_ne (ne_of_none e hp0)]; exact s2 _ _ (sB1 _ _ e)
    have c2 : (upd H2 p (.ins C dx (pf2 q1 q2))) q1 = some (.lst (cols.map V.str)) := by rw [upd_ne np1]; exact s2 _ _ c1
    have p2 : (upd H2 p (.ins C dx (pf2 q1 q2))) p = some (.ins C dx (pf2 q1 q2)) := upd_same
    have gB2 : Gr F H0 F2 (upd H2 p (.ins C dx (pf2 q1 q2))) := ((Gr.base sF sB1).trans g2 (fun z hz => same_none sB1 hz)).put fp2
    show Ends.nx _ _ (upd H2 p (.ins C dx (pf2 q1 q2)))
    generalize hB2 : upd H2 p (.ins C dx (pf2 q1 q2)) = B2 at *
    have q2n : H0 q2 = none := same_none sB1 hq2
    obtain ⟨_, zs, eh, hzs, hzr⟩ := R_list.mp hh
    cases eh
    have hzl : zs.length = sums.length := by rw [RA.len hzr, List.length_map]
    refine ⟨_, rfl, hs, rfl, ⟨_, SqL.of (sB2 _ _ hzs)⟩, fun D hD => ?_⟩
    have hD0 : H0 D = none := same_none sB2 hD
    refine lc_data (K := K) (a := hs) (xs := zs) (F0 := F2) ((sums.map fun tb => cols.map (look tb)).map dInts) (by simp [hzl]) (by have := good.slen; omega) (SqL.of (sB2 _ _ hzs)) hD gB2.sub (fun i x d F' H' Q' hx hd s3 g3 nD fD k => ?_) (fun F' H' ys s3 g3 fD ra hD' => ?_)
    · have hi : i < sums.length := by rw [← hzl]; exact (List.getElem?_eq_some_iff.mp hx).1
      have hsi : sums[i]? = some sums[i] := List.getElem?_eq_getElem hi
      rw [List.map_map, List.getElem?_map, hsi] at hd
      cases hd
      obtain ⟨x', hx', hR⟩ := RA.at hzr (show (sums.map dSum)[i]? = some (dSum sums[i]) by rw [List.getElem?_map, hsi]; rfl)
      rw [hx] at hx'
      cases hx'
      obtain ⟨t, rfl, ht⟩ := R_dSum.mp hR
      refine ⟨rfl, _, rfl, p, C, dx, _, _, rfl, s3 _ _ p2, L.cl, L.nC, pf2_c q1 q2, _, rfl, q1, t, cols, sums[i], rfl, s3 _ _ c2, s3 _ _ (sB2 _ _ ht), good.c.len, good.s _ (List.getElem_mem hi), fun r H4 hr4 s4 h4 => ?_⟩
      exact k _ _ _ s4 (Gr.one (g3.sub.trans s4) hr4 h4) (R_dInts.mpr ⟨r, rfl, upd_same⟩)
    · refine ⟨_, rfl, p, C, dx, pf2 q1 q2, rfl, s3 _ _ p2, L.cl, L.nH, pf2_len q1 q2, ?_⟩
      have fp3 : F' p = none := g3.out fp2 (some_ne p2)
      have npD : p ≠ D := fun z => by rw [z, hD] at p2; cases p2
      have ga := (gB2.trans g3 (fun z hz => same_none sB2 hz)).snoc hD0 hD'
      have gb := ga.put (D := p) (o := .ins C dx (pf3 q1 q2 D)) (by rw [upd_ne npD]; exact fp3)
      have gc := gb.snoc (D := q1) (o := .lst (cols.map V.str)) q1n (by rw [upd_ne np1]; exact s3 _ _ c2)
      have gd := gc.snoc (D := p) (o := .ins C dx (pf3 q1 q2 D)) hp0 upd_same
      refine q _ _ (fun b o e => ?_) gd ⟨dx, q1, q2, D, upd_same, ?_, ?_, ?_⟩
      · rw [upd_ne (ne_of_none e hp0)]; exact s3 _ _ (sB2 _ _ e)
      · rw [upd_ne np1]; exact upd_same
      · refine R.mono (fun b o e => ?_) _ _ hR2
        have e2 := g3.le _ _ e
        have nb1 : b ≠ p := fun z => by rw [z, fp2] at e; cases e
        have nbD : b ≠ D := fun z => by have := gB2.sub _ _ e; rw [z, hD] at this; cases this
        rw [upd_ne nb1]
        by_cases z : b = q1
        · subst z
          rw [upd_same]
          have := gB2.sub _ _ e
          rw [c2] at this
          exact this
        · rw [upd_ne z, upd_ne nbD]; exact e2
      · refine R_list.mpr ⟨D, ys, rfl, ?_, RA.mono (fun b o e => ?_) _ _ ra⟩
        · rw [upd_ne (Ne.symm npD)]
          have n1D : D ≠ q1 := fun z => by rw [← z, hD] at c2; cases c2
          rw [upd_ne n1D]; exact upd_same
        · have nb1 : b ≠ p := fun z => by rw [z, fp3] at e; cases e
          have nbD : b ≠ D := fun z => by rw [z, fD] at e; cases e
          rw [upd_ne nb1]
          by_cases z : b = q1
          · subst z
            rw [upd_same]
            have := g3.sub _ _ e
            rw [s3 _ _ c2] at this
            exact this
          · rw [upd_ne z, upd_ne nbD]; exact e
end
end Pz
namespace Pz
open PySem L2
open PyProof.Rows (envOfC)
section
variable {P : Program} {w : World} {K : PySem.W.Frag} {mg : Str → Option Value} {base : Heap} {C : Addr}
def spPCols (C : Addr) : Sp := fun vs H Q _ => ∃ (F : Hp) (p : Addr) (cols : List Str) (kds : List KD) (chk : List (List Int)), vs = [.ref p] ∧ Same F H ∧ PlanAt C F p cols kds chk ∧
  ∀ (q : Addr) (H' : Hp), H q = none → Same H H' → H' q = some (.lst (cols.map V.str)) → Q (.ref q) H'
theorem ok_Plan_columns (T : Txt K mg) (L : PlanT K mg C) : Prp P w K mg base 1 C "columns" (spPCols C) := by
  obtain ⟨pp, g, fd, hp, F, hb⟩ := L.pcol
  refine ⟨pp, g, fd, L.cl, hp, hb, F.ok sc_Plan_columns (fun vs H Q E h => ?_) (fun cdv A outer s H vs Q E hr h => ?_)⟩
  · obtain ⟨_, _, _, _, _, rfl, _⟩ := h; rfl
  · obtain ⟨F, p, cols, kds, chk, rfl, sF, ⟨dx, c, k, hh, h1, h2, h3, h4⟩, q⟩ := h
    refine ⟨_, (pss_one (ps_ret (pe_callTy call_list_of (by rfl) T.z_list (by decide +kernel) (pa_cons (pe_fld (pv 0) (by rfl)) pa_nil)))), ?_⟩
    refine ⟨_, rfl, p, C, dx, _, _, rfl, sF _ _ h1, L.cl, L.nC, pf3_c _ _ _, c, _, rfl, .inl (SqL.of (sF _ _ h2)), fun r hr' => ?_⟩
    exact q r _ hr' (same_upd hr') upd_same
/-- lists of whole numbers, each a new one -/
structure NewRows (H H' : Hp) (q : Addr) (rows : List (List Int)) (rs : List Addr) : Prop where
  len : rs.length = rows.length
  at_ : H' q = some (.lst (rs.map V.ref))
  nd : (q :: rs).Nodup
  fr : ∀ r ∈ rs, H r = none
  ct : ∀ (i : Nat) r ns, rs[i]? = some r → rows[i]? = some ns → H' r = some (.lst (ns.map V.int))
theorem NewRows.R {F H H' : Hp} {q : Addr} {rows : List (List Int)} {rs : List Addr} (h : NewRows H H' q rows rs) (hq : H q = none) : R (grow F H H') (dRows rows) (.ref q) := by
  refine R_list.mpr ⟨q, _, rfl, grow_new hq h.at_, RA_of (by rw [List.length_map, List.length_map]; exact h.len) ?_⟩
  intro i d x e1 e2
  rw [List.getElem?_map] at e1 e2
  obtain ⟨ns, e3, rfl⟩ := Option.map_eq_some_iff.mp e1
  obtain ⟨r, e4, rfl⟩ := Option.map_eq_some_iff.mp e2
  exact R_dInts.mpr ⟨r, rfl, grow_new (h.fr r (List.mem_of_getElem? e4)) (h.ct i r ns e4 e3)⟩
def spPChk (C : Addr) : Sp := fun vs H Q _ => ∃ (F : Hp) (p : Addr) (cols : List Str) (kds : List KD) (chk : List (List Int)), vs = [.ref p] ∧ Same F H ∧ PlanAt C F p cols kds chk ∧ chk.length ≤ 40 ∧
  ∀ (q : Addr) (H' : Hp) (rs : List Addr), H q = none → Same H H' → NewRows H H' q chk rs → Q (.ref q) H'
theorem rows_src {F H : Hp} {rows : List (List Int)} {a : Addr} (h : Pz.R F (dRows rows) (.ref a)) (s : Same F H) : ∃ xs, H a = some (.lst xs) ∧ xs.length = rows.length ∧ ∀ (i : Nat) x ns, xs[i]? = some x → rows[i]? = some ns → ∃ b, x = .ref b ∧ H b = some (.lst (ns.map V.int)) := by
  obtain ⟨_, xs, e, h1, h2⟩ := R_list.mp h
  cases e
  refine ⟨xs, s _ _ h1, by rw [RA.len h2, List.length_map], fun i x ns e1 e2 => ?_⟩
  obtain ⟨y, ey, hy⟩ := RA.at h2 (show (rows.map dInts)[i]? = some (dInts ns) by rw [List.getElem?_map, e2]; rfl)
  rw [e1] at ey
  cases ey
  obtain ⟨b, rfl, hb⟩ := R_dInts.mp hy
  exact ⟨b, rfl, s _ _ hb⟩
theorem ok_Plan_checks (T : Txt K mg) (L : PlanT K mg C) : Prp P w K mg base 1 C "checks" (spPChk C) := by
  obtain ⟨pp, g, fd, hp, F, hb⟩ := L.pchk
  refine ⟨pp, g, fd, L.cl, hp, hb, F.ok sc_Plan_checks (fun vs H Q E h => ?_) (fun cdv A outer s H vs Q E hr h => ?_)⟩
  · obtain ⟨_, _, _, _, _, rfl, _⟩ := h; rfl
  · obtain ⟨F, p, cols, kds, chk, rfl, sF, ⟨dx, c, k, hh, h1, h2, h3, h4⟩, hlen, q⟩ := h
    refine ⟨_, (pss_one (ps_ret (pe_lc (own := [("factors", 1)]) (g := gName 1) (by rfl) sc_Plan_checks.nd (pi_list (pe_fld (pv 0) (by rfl))) (blkOk_by (own := [("factors", 1)]) (N := ["self", "factors"]) (sc := defScope s_Plan_checks) (by decide +kernel)) (fun _ _ _ _ _ => pg_name (i := 1) sc_Plan_checks.nd rfl (by first | exact Or.inl rfl | exact Or.inr rfl)) (fun _ _ _ _ _ => pts_nil) (fun _ _ _ _ _ => (pe_callTy (list_ofK (K := K)) (by rfl) T.z_list (by decide +kernel) (pa_cons (pv 1) pa_nil)))))), ?_⟩
    obtain ⟨xs, hxs, hxl, hsrc⟩ := rows_src h4 sF
    refine ⟨_, rfl, p, C, dx, _, _, rfl, sF _ _ h1, L.cl, L.nH, pf3_h _ _ _, hh, rfl, ⟨_, SqL.of hxs⟩, fun D hD => ?_⟩
    refine lc_copy (K := K) (a := hh) (xs := xs) (chk.map fun ns => ns.map V.int) (by rw [List.length_map, hxl]) (by omega) (SqL.of hxs) hD (fun i x c' H' Q' hx hc s1 k => ?_) (fun H' rs s1 el hq nd fr ct => ?_)
    · rw [List.getElem?_map] at hc
      obtain ⟨ns, e3, rfl⟩ := Option.map_eq_some_iff.mp hc
      obtain ⟨b, rfl, hb⟩ := hsrc i x ns hx e3
      exact ⟨rfl, _, rfl, b, _, rfl, .inl (SqL.of (s1 _ _ hb)), k⟩
    · refine q D H' rs hD s1 ⟨by rw [el, List.length_map], hq, nd, fr, fun i r ns e1 e2 => ct i r _ e1 (by rw [List.getElem?_map, e2]; rfl)⟩
/-- a kind as the property hands it out: the tuple, the lists of states and steps, the states -/
structure NewKind (F H H' : Hp) (k : KD) (t st sp : Addr) (rs : List Addr) : Prop where
  tup : H' t = some (.tup [.str k.name, .ref st, .ref sp])
  rows : NewRows H H' st k.rows rs
  steps : ∃ zs, H' sp = some (.lst zs) ∧ RA F (k.steps.map dStep) zs
end
end Pz
namespace Pz
open PySem L2
open PyProof.Rows (envOfC)
abbrev KA := Addr × Addr × Addr × List Addr
def flatK (kas : List KA) : List Addr := kas.flatMap fun a => a.2.1 :: a.2.2.1 :: a.2.2.2
theorem NewRows.mono {H H' H2 : Hp} {q : Addr} {rows : List (List Int)} {rs : List Addr} (h : NewRows H H' q rows rs) (s : Same H' H2) : NewRows H H2 q rows rs :=
  ⟨h.len, s _ _ h.at_, h.nd, h.fr, fun i r ns a b => s _ _ (h.ct i r ns a b)⟩
theorem NewKind.mono {F H H' H2 : Hp} {k : KD} {t st sp : Addr} {rs : List Addr} (h : NewKind F H H' k t st sp rs) (s : Same H' H2) : NewKind F H H2 k t st sp rs := by
  obtain ⟨zs, h1, h2⟩ := h.steps
  exact ⟨s _ _ h.tup, h.rows.mono s, zs, s _ _ h1, h2⟩
structure NewKinds (F H H' : Hp) (q : Addr) (kds : List KD) (kas : List KA) : Prop where
  len : kas.length = kds.length
  at_ : H' q = some (.lst (kas.map fun a => V.ref a.1))
  fr : ∀ a ∈ kas, H a.1 = none ∧ H a.2.1 = none ∧ H a.2.2.1 = none
  ct : ∀ (i : Nat) a k, kas[i]? = some a → kds[i]? = some k → NewKind F H H' k a.1 a.2.1 a.2.2.1 a.2.2.2
  nd : (q :: flatK kas).Nodup
theorem NewKinds.R {F H H' : Hp} {q : Addr} {kds : List KD} {kas : List KA} (h : NewKinds F H H' q kds kas) (hq : H q = none) (s : Same F H) (e : Same H H') : R (grow F H H') (.list (kds.map dKind)) (.ref q) := by
  refine R_list.mpr ⟨q, _, rfl, grow_new hq h.at_, RA_of (by rw [List.length_map, List.length_map]; exact h.len) ?_⟩
  intro i d x e1 e2
  rw [List.getElem?_map] at e1 e2
  obtain ⟨k, e3, rfl⟩ := Option.map_eq_some_iff.mp e1
  obtain ⟨a, e4, rfl⟩ := Option.map_eq_some_iff.mp e2
  have c := h.ct i a k e4 e3
  obtain ⟨f1, f2, f3⟩ := h.fr a (List.mem_of_getElem? e4)
  obtain ⟨zs, h1, h2⟩ := c.steps
  exact R_dKind.mpr ⟨a.1, _, _, rfl, grow_new f1 c.tup, c.rows.R f2, R_list.mpr ⟨_, zs, rfl, grow_new f3 h1, RA.mono (gr_grow s e).le _ _ h2⟩⟩
section
variable {P : Program} {w : World} {K : PySem.W.Frag} {mg : Str → Option Value} {base : Heap} {C : Addr}
def spPKin (C : Addr) : Sp := fun vs H Q _ => ∃ (F : Hp) (p : Addr) (cols : List Str) (kds : List KD) (chk : List (List Int)), vs = [.ref p] ∧ Same F H ∧ PlanAt C F p cols kds chk ∧ kds.length ≤ 40 ∧ (∀ k ∈ kds, k.rows.length ≤ 40) ∧
  ∀ (q : Addr) (H' : Hp) (kas : List KA), H q = none → Same H H' → NewKinds F H H' q kds kas → Q (.ref q) H'
theorem ok_Plan_kinds (T : Txt K mg) (L : PlanT K mg C) : Prp P w K mg base 1 C "kinds" (spPKin C) := by
  obtain ⟨pp, g, fd, hp, F, hb⟩ := L.pkin
  refine ⟨pp, g, fd, L.cl, hp, hb, F.ok sc_Plan_kinds (fun vs H Q E h => ?_) (fun cdv A outer s H vs Q E hr h => ?_)⟩
  · obtain ⟨_, _, _, _, _, rfl, _⟩ := h; rfl
  · obtain ⟨F, p, cols, kds, chk, rfl, sF, ⟨dx, c, k, hh, h1, h2, h3, h4⟩, hlen, hrl, q⟩ := h
    refine ⟨_, (pss_one (ps_ret (pe_lc (own := [("name", 1), ("rows", 2), ("steps", 3)]) (by rfl) sc_Plan_kinds.nd (pi_list (pe_fld (pv 0) (by rfl))) (blkOk_by (own := [("name", 1), ("rows", 2), ("steps", 3)]) (N := ["self", "name", "rows", "steps", "row"]) (sc := defScope s_Plan_kinds) (by decide +kernel)) (fun _ _ _ _ _ => (pg_tupK (K := K) (n := 3) rfl (pgs_cons (pg_name (i := 1) sc_Plan_kinds.nd rfl (by first | exact Or.inl rfl | exact Or.inr rfl)) (pgs_cons (pg_name (i := 2) sc_Plan_kinds.nd rfl (by first | exact Or.inl rfl | exact Or.inr rfl)) (pgs_cons (pg_name (i := 3) sc_Plan_kinds.nd rfl (by first | exact Or.inl rfl | exact Or.inr rfl)) pgs_nil))))) (fun _ _ _ _ _ => pts_nil) (fun _ _ _ _ _ => (pe_tup (pa_cons (pv 1) (pa_cons (pe_lc (own := [("row", 4)]) (g := gName 4) (by rfl) sc_Plan_kinds.nd (pi_listK (K := K) (pv 2)) (blk_closed (blkOk_by (own := [("row", 4)]) (N := ["self", "name", "rows", "steps", "row"]) (sc := defScope s_Plan_kinds) (by decide +kernel)) (by decide +kernel)) (fun _ _ _ _ _ => pg_name (i := 4) sc_Plan_kinds.nd rfl (by first | exact Or.inl rfl | exact Or.inr rfl)) (fun _ _ _ _ _ => pts_nil) (fun _ _ _ _ _ => (pe_callTy (list_ofK (K := K)) (by rfl) T.z_list (by decide +kernel) (pa_cons (pv 4) pa_nil)))) (pa_cons (pe_callTy (list_ofK (K := K)) (by rfl) T.z_list (by decide +kernel) (pa_cons (pv 3) pa_nil)) pa_nil)))))))), ?_⟩
    obtain ⟨_, xs, ek, hxs, hra⟩ := R_list.mp h3
    cases ek
    have hxl : xs.length = kds.length := by rw [RA.len hra, List.length_map]
    refine ⟨_, rfl, p, C, dx, _, _, rfl, sF _ _ h1, L.cl, L.nK, pf3_k _ _ _, k, rfl, ⟨_, SqL.of (sF _ _ hxs)⟩, fun D hD => ?_⟩
    refine lc_list (K := K) (a := k) (xs := xs) (fun i H' => ∃ kas : List KA, kas.length = i ∧ Same H H' ∧ H' D = some (.lst (kas.map fun a => V.ref a.1)) ∧ (∀ a ∈ kas, H a.1 = none ∧ H a.2.1 = none ∧ H a.2.2.1 = none) ∧
        (∀ (j : Nat) a k, kas[j]? = some a → kds[j]? = some k → NewKind F H (hid D H') k a.1 a.2.1 a.2.2.1 a.2.2.2) ∧ (D :: flatK kas).Nodup ∧ ∀ b ∈ flatK kas, H' b ≠ none)
      ⟨[], rfl, same_upd hD, upd_same, (fun a h => nomatch h), (fun j a k h => by simp at h), by simp [flatK], (fun b h => by simp [flatK] at h)⟩ (fun i H' _ ⟨_, _, s1, _⟩ => SqL.of (s1 _ _ (sF _ _ hxs))) ?_ ?_
    · rintro i x H' hx ⟨kas, el, s1, hD1, fr, ct, nd, ex⟩
      have hi : i < kds.length := by rw [← hxl]; exact (List.getElem?_eq_some_iff.mp hx).1
      have hki : kds[i]? = some kds[i] := List.getElem?_eq_getElem hi
      obtain ⟨x', hx', hR⟩ := RA.at hra (show (kds.map dKind)[i]? = some (dKind kds[i]) by rw [List.getElem?_map, hki]; rfl)
      rw [hx] at hx'
      cases hx'
      have hrl' := hrl _ (List.getElem_mem hi)
      generalize kds[i] = kd at *
      obtain ⟨t0, x0, y0, rfl, ht0, hx0, hy0⟩ := R_dKind.mp hR
      obtain ⟨rw0, _, er, _, _⟩ := R_list.mp hx0
      cases er
      obtain ⟨sp0, zs, es, hzs, hza⟩ := R_list.mp hy0
      cases es
      obtain ⟨rxs, hrxs, hrxl, hsrc⟩ := rows_src hx0 (sF.trans s1)
      refine ⟨t0, _, rfl, SqT.of (s1 _ _ (sF _ _ ht0)), rfl, _, _, rfl, _, _, rfl, _, _, rfl, rfl, rfl, ?_⟩
      refine ⟨_, rfl, _, rfl, rw0, rfl, ⟨_, SqL.of hrxs⟩, fun D2 hD2 => ?_⟩
      refine lc_copy (K := K) (a := rw0) (xs := rxs) (kd.rows.map fun ns => ns.map V.int) (by rw [List.length_map, hrxl]) (by omega) (SqL.of hrxs) hD2 (fun j x c' H2 Q' hx2 hc s2 kk => ?_) (fun H2 rs s2 el2 hq2 nd2 fr2 ct2 => ?_)
      · rw [List.getElem?_map] at hc
        obtain ⟨ns, e3, rfl⟩ := Option.map_eq_some_iff.mp hc
        obtain ⟨b, rfl, hb⟩ := hsrc j x ns hx2 e3
        exact ⟨rfl, _, rfl, b, _, rfl, .inl (SqL.of (s2 _ _ hb)), kk⟩
      refine ⟨_, rfl, sp0, _, rfl, .inl (SqL.of (s2 _ _ (s1 _ _ (sF _ _ hzs)))), fun sp hsp => ?_⟩
      have s3 := same_upd (o := .lst zs) hsp
      refine ⟨(show 3 ≤ sizeLine by decide), fun t ht => ?_⟩
      have s4 := same_upd (o := .tup [V.str kd.name, .ref D2, .ref sp]) ht
      have s14 : Same H' (upd (upd H2 sp (.lst zs)) t (.tup [V.str kd.name, .ref D2, .ref sp])) := s2.trans (s3.trans s4)
      have hDt := s14 _ _ hD1
      have hsp' : H' sp = none := same_none s2 hsp
      have ht' : H' t = none := same_none (s2.trans s3) ht
      have ndD2 : D ≠ D2 := fun z => by rw [← z, hD1] at hD2; cases hD2
      have ndsp : D ≠ sp := fun z => by rw [← z, hD1] at hsp'; cases hsp'
      have ndt : D ≠ t := fun z => by rw [← z, hD1] at ht'; cases ht'
      have ndr : ∀ r ∈ rs, D ≠ r := fun r hr z => by have := fr2 r hr; rw [← z, hD1] at this; cases this
      have spD2 : sp ≠ D2 := fun z => by rw [z, hq2] at hsp; cases hsp
      have rsome : ∀ r ∈ rs, H2 r ≠ none := fun r hr => by
        obtain ⟨j, hj, ej⟩ := List.mem_iff_getElem.mp hr
        have hj2 : j < (kd.rows.map fun ns => ns.map V.int).length := by omega
        rw [ct2 j r _ (by rw [List.getElem?_eq_getElem hj, ej]) (List.getElem?_eq_getElem hj2)]
        exact fun z => nomatch z
      have sprs : sp ∉ rs := fun z => rsome sp z hsp
      rw [List.nodup_cons] at nd nd2
      refine ⟨_, hDt, by rw [List.length_map]; exact small1000 (by omega), kas ++ [(t, D2, sp, rs)], by simp [el], ?_, by rw [upd_same, List.map_append]; rfl, ?_, ?_, ?_, ?_⟩
      · exact fun b o e => by
          rw [upd_ne (fun z => by rw [z, hD] at e; cases e)]
          exact s14 _ _ (s1 _ _ e)
      · intro a ha
        rcases List.mem_append.mp ha with ha | ha
        · exact fr a ha
        · rw [List.mem_singleton.mp ha]
          exact ⟨same_none s1 ht', same_none s1 hD2, same_none s1 hsp'⟩
      · intro j a k' e1 e2
        rw [hid_upd]
        by_cases hj : j < kas.length
        · rw [List.getElem?_append_left hj] at e1
          exact (ct j a k' e1 e2).mono (hid_mono fun b o _ e => s14 b o e)
        · have ej : j = i := by
            have := (List.getElem?_eq_some_iff.mp e1).1
            simp at this
            omega
          subst ej
          rw [List.getElem?_append_right (by omega)] at e1
          have e0 : j - kas.length = 0 := by omega
          rw [e0] at e1
          have ea : (t, D2, sp, rs) = a := by simpa using e1
          subst ea
          rw [hki] at e2
          cases e2
          refine ⟨?_, ⟨by rw [el2, List.length_map], ?_, List.nodup_cons.mpr nd2, fun r hr => same_none s1 (fr2 r hr), fun j r ns e1 e2 => ?_⟩, zs, ?_, hza⟩
          · rw [hid_ne (Ne.symm ndt)]; exact upd_same
          · rw [hid_ne (Ne.symm ndD2)]; exact s4 _ _ (s3 _ _ hq2)
          · rw [hid_ne (Ne.symm (ndr r (List.mem_of_getElem? e1)))]
            exact s4 _ _ (s3 _ _ (ct2 j r _ e1 (by rw [List.getElem?_map, e2]; rfl)))
          · rw [hid_ne (Ne.symm ndsp)]; exact s4 _ _ upd_same
      · have ef : flatK (kas ++ [(t, D2, sp, rs)]) = flatK kas ++ (D2 :: sp :: rs) := by simp [flatK]
        rw [ef, List.nodup_cons, List.nodup_append]
        refine ⟨?_, nd.2, ?_, ?_⟩
        · intro z
          rcases List.mem_append.mp z with z | z
          · exact nd.1 z
          · rcases List.mem_cons.mp z with z | z
            · exact ndD2 z
            · rcases List.mem_cons.mp z with z | z
              · exact ndsp z
              · exact ndr D z rfl
        · rw [List.nodup_cons, List.nodup_cons]
          refine ⟨fun z => ?_, sprs, nd2.2⟩
          rcases List.mem_cons.mp z with z | z
          · exact spD2 z.symm
          · exact nd2.1 z
        · intro b hb c' hc e
          subst e
          have hbs := ex b hb
          rcases List.mem_cons.mp hc with z | z
          · exact hbs (z ▸ hD2)
          · rcases List.mem_cons.mp z with z | z
            · exact hbs (z ▸ hsp')
            · exact hbs (fr2 b z)
      · intro b hb
        have ef : flatK (kas ++ [(t, D2, sp, rs)]) = flatK kas ++ (D2 :: sp :: rs) := by simp [flatK]
        rw [ef] at hb
        by_cases z : b = D
        · subst z; rw [upd_same]; exact fun z => nomatch z
        rw [upd_ne z]
        rcases List.mem_append.mp hb with hb | hb
        · cases q : H' b with
          | none => exact absurd q (ex b hb)
          | some o => rw [s14 _ _ q]; exact fun z => nomatch z
        · rcases List.mem_cons.mp hb with hb | hb
          · rw [hb, s4 _ _ (s3 _ _ hq2)]; exact fun z => nomatch z
          · rcases List.mem_cons.mp hb with hb | hb
            · rw [hb, s4 _ _ upd_same]; exact fun z => nomatch z
            · cases q : H2 b with
              | none => exact absurd q (rsome b hb)
              | some o => rw [s4 _ _ (s3 _ _ q)]; exact fun z => nomatch z
    · rintro H' ⟨kas, el, s1, hD1, fr, ct, nd, ex⟩
      exact q D H' kas hD s1 ⟨by omega, hD1, fr, fun i a k' e1 e2 => (ct i a k' e1 e2).mono hid_sub, nd⟩
end
end Pz
namespace Pz
open PySem L2
open PyProof.Rows (envOfC)
/-! ### _law_word -/
theorem at_strs {xs : List Str} {i : Int} (h0 : 0 ≤ i) (h1 : i < xs.length) : ∃ z, z ∈ xs ∧ atI (xs.map V.str) i = some (.str z) := by
  obtain ⟨n, rfl⟩ := Int.eq_ofNat_of_zero_le h0
  have h2 : n < xs.length := by omega
  refine ⟨xs[n], List.getElem_mem h2, atI_nat ?_⟩
  rw [List.getElem?_map, List.getElem?_eq_getElem h2]
  rfl
theorem let_at {i : Int} (h0 : 0 ≤ i) (h1 : i < 26) : ∃ c, c ∈ LET ∧ atI LET i = some c ∧ c = (97 + i.toNat) := by
  have key : ∀ n : Nat, n < 26 → (97 + n) ∈ LET ∧ LET[n]? = some (97 + n) := by decide +kernel
  obtain ⟨k1, k2⟩ := key i.toNat (by omega)
  refine ⟨97 + i.toNat, k1, ?_, rfl⟩
  have e : i = ((i.toNat : Nat) : Int) := by omega
  rw [e]
  exact atI_nat k2
theorem let_len : ("abcdefghijklmnopqrstuvwxyz" : Str).length ≤ sizeLine := by decide +kernel
/-- all signs are letters -/
def Lts (s : Str) : Prop := ∀ c ∈ s.cps.toList, c ∈ LET
theorem isNm_iff (s : Str) : isNm s = true ↔ 1 ≤ s.length ∧ s.length ≤ 8 ∧ Lts s := by
  unfold isNm Lts
  simp only [Bool.and_eq_true, decide_eq_true_eq, List.all_eq_true]
  exact and_assoc
theorem str_len (s : Str) : s.length = s.cps.toList.length := by simp [Str.length]
theorem cps_append (a b : Str) : (a ++ b).cps.toList = a.cps.toList ++ b.cps.toList := by
  show (a.cps ++ b.cps).toList = _
  rw [Array.toList_append]
theorem Lts.app {a b : Str} (h : Lts a) (h' : Lts b) : Lts (a ++ b) := by
  intro c hc
  rw [cps_append] at hc
  rcases List.mem_append.mp hc with hc | hc
  · exact h c hc
  · exact h' c hc
theorem len_app (a b : Str) : (a ++ b).length = a.length + b.length := by
  rw [str_len, cps_append, List.length_append, ← str_len, ← str_len]
theorem cut_list (z : Str) (lo hi : Option Int) : (cutS z lo hi).cps.toList = (z.cps.toList.drop (HT.sIx z.length 0 lo)).take (HT.sIx z.length z.length hi - HT.sIx z.length 0 lo) := by
  show ((z.cps.toList.drop (HT.sIx z.length 0 lo)).take (HT.sIx z.length z.length hi - HT.sIx z.length 0 lo)).toArray.toList = _
  rw [List.toList_toArray]
theorem Lts.cut {z : Str} (h : Lts z) (lo hi : Option Int) : Lts (cutS z lo hi) := by
  intro c hc
  rw [cut_list] at hc
  exact h c (List.mem_of_mem_drop (List.mem_of_mem_take hc))
theorem cut8 (z : Str) : (cutS z none (some 8)).length = min 8 z.length := by
  have e : HT.sIx z.length z.length (some 8) = min 8 z.length := HT.sIx_nat z.length z.length 8
  rw [str_len, cut_list, e, HT.sIx_none, List.length_take, List.drop_zero, ← str_len]
  omega
theorem lts_one {c : Nat} (h : c ∈ LET) : Lts ⟨#[c]⟩ := by
  intro d hd
  have : d = c := by simpa using hd
  rw [this]; exact h
def fw (j : Nat) : Str := (⟨#[97 + j % 26]⟩ : Str) ++ (⟨#[97 + j / 26]⟩ : Str)
theorem nodup_sub_len {α : Type} [DecidableEq α] : ∀ {l m : List α}, l.Nodup → (∀ x ∈ l, x ∈ m) → l.length ≤ m.length
  | [], m, _, _ => Nat.zero_le _
  | a :: l, m, nd, h => by
    rw [List.nodup_cons] at nd
    have ha := h a List.mem_cons_self
    have ih := nodup_sub_len (l := l) (m := m.erase a) nd.2 fun x hx => by
      have hxa : x ≠ a := fun e => nd.1 (e ▸ hx)
      exact (List.mem_erase_of_ne hxa).mpr (h x (List.mem_cons_of_mem _ hx))
    rw [List.length_erase_of_mem ha] at ih
    have := List.length_pos_of_mem ha
    simp only [List.length_cons]
    omega
theorem joinL_nil : ∀ ps : List (List Nat), TL.joinL [] ps = ps.flatten
  | [] => rfl
  | [p] => by simp [TL.joinL]
  | p :: q :: r => by
    show p ++ ([] ++ TL.joinL [] (q :: r)) = _
    rw [joinL_nil (q :: r)]
    simp
theorem join_ones (zs : List Str) (h : ∀ z ∈ zs, z.length = 1 ∧ Lts z) : (Txt.join "" zs).length = zs.length ∧ Lts (Txt.join "" zs) := by
  have e : (Txt.join "" zs).cps.toList = (zs.map fun z => z.cps.toList).flatten := by
    rw [TL.join_eq]
    have := TL.tl_join ("" : Str) zs
    rw [show TL.tl ("" : Str) = [] from rfl, joinL_nil] at this
    exact this
  constructor
  · rw [str_len, e, List.length_flatten, List.map_map]
    clear e
    induction zs with
    | nil => rfl
    | cons z r ih =>
      have hz := (h z List.mem_cons_self).1
      rw [str_len] at hz
      simp only [List.map_cons, List.sum_cons, Function.comp, List.length_cons]
      rw [hz, show (List.map (List.length ∘ fun z : Str => z.cps.toList) r).sum = r.length from ih fun x hx => h x (List.mem_cons_of_mem _ hx)]
      omega
  · intro c hc
    rw [e] at hc
    obtain ⟨l, hl, hcl⟩ := List.mem_flatten.mp hc
    obtain ⟨z, hz, rfl⟩ := List.mem_map.mp hl
    exact (h z hz).2 c hcl
theorem sum_ones : ∀ (zs : List Str), (∀ z ∈ zs, z.length = 1) → (zs.map (·.length)).sum = zs.length
  | [], _ => rfl
  | z :: r, h => by
    rw [List.map_cons, List.sum_cons, sum_ones r fun x hx => h x (List.mem_cons_of_mem _ hx), h z List.mem_cons_self, List.length_cons]
    omega
theorem fw_inj {i j : Nat} (h : fw i = fw j) : i = j := by
  have e : [97 + i % 26, 97 + i / 26] = [97 + j % 26, 97 + j / 26] := congrArg (fun s : Str => s.cps.toList) h
  injection e with e1 e2
  injection e2 with e2 _
  omega
theorem fw_nodup : ((List.range 301).map fw).Nodup := List.pairwise_map.mpr (List.nodup_range.imp fun n e => n (fw_inj e))
theorem fw_nm (j : Nat) (h : j < 676) : isNm (fw j) = true := by
  have key : ∀ j : Nat, j < 676 → isNm (fw j) = true := by decide +kernel
  exact key j h
def spWord : Sp := fun vs H Q _ => ∃ (w t : Addr) (taken : List Str) (N : Nat), vs = [.ref w, .ref t] ∧ H t = some (.lst (taken.map V.str)) ∧ Wl H w N ∧ N ≤ 10000000 ∧ taken.length ≤ 300 ∧ (∀ x ∈ taken, isNm x = true) ∧
  ∀ (s : Str) (H' : Hp), isNm s = true → s ∉ taken → Sm w H H' → Wl H' w (N + 20) → Q (.str s) H'
theorem wl_not_strs {H : Hp} {w t : Addr} {N : Nat} {ss : List Str} (h : Wl H w N) (ht : H t = some (.lst (ss.map V.str))) : t ≠ w := by
  rintro rfl
  obtain ⟨a, b, c, e, _⟩ := h
  rw [ht] at e
  cases ss with
  | nil => cases e
  | cons x r => cases e
theorem plain_dStrs {ss : List Str} (h : ∀ x ∈ ss, isNm x = true) : plain (dStrs ss) = true := by
  simp only [dStrs, plain]
  exact plainAll_of fun x hx => by obtain ⟨s, hs, rfl⟩ := List.mem_map.mp hx; simp only [plain]; exact nm_ok (h s hs)
theorem depth_dStrs (ss : List Str) : (dStrs ss).depth ≤ 1 := by
  simp only [dStrs, PyData.depth]
  have := depthAll_le (n := 0) (xs := ss.map PyData.str) fun x hx => by obtain ⟨i, _, rfl⟩ := List.mem_map.mp hx; simp [PyData.depth]
  omega
section
variable {P : Program} {w : World} {K : PySem.W.Frag} {mg : Str → Option Value} {base : Heap}
theorem ok_law_word (T : Txt K mg) : Fn P w K mg base 2 "_law_word" ["well", "taken"] spWord := by
  have G_law_draw := ok_law_draw (P := P) (w := w) (base := base) T
  refine T.d_law_word.fn sc_law_word (fun vs H Q E h => ?_) (fun cdv A outer f s H vs Q E hr h => ?_)
  · obtain ⟨_, _, _, _, rfl, _⟩ := h; rfl
  · obtain ⟨w, t, taken, N, rfl, ht, hw, hN, hlen, hnm, q⟩ := h
    have ntw : t ≠ w := wl_not_strs hw ht
    refine ⟨_, (pss_cons (ps_set (i := 2) sc_law_word.nd rfl (Or.inr rfl) pe_str) (pss_cons (ps_set (i := 3) sc_law_word.nd rfl (Or.inl rfl) (pe_fn G_law_draw (hr.mono (by decide)) (by rfl) (pa_cons (pv 0) (pa_cons pe_int pa_nil)))) (pss_cons (ps_set (i := 4) sc_law_word.nd rfl (Or.inl rfl) (pe_ix ix_list (pe_lst (pa_cons pe_str (pa_cons pe_str (pa_cons pe_str (pa_cons pe_str (pa_cons pe_str (pa_cons pe_str (pa_cons pe_str pa_nil)))))))) (pe_fn G_law_draw (hr.mono (by decide)) (by rfl) (pa_cons (pv 0) (pa_cons pe_int pa_nil))) (fun _ _ => rfl))) (C8.pss_cut (ps_if (PW.pt (pw_and (pt_cmpR op_eq (pv 3) pe_int (nomark _)) (pw_and1 (pt_cmpR (op_neD hr.units) (pv 1) (pe_lst pa_nil) (nomark _))))) (pss_cons (ps_set (i := 5) sc_law_word.nd rfl (Or.inl rfl) (pe_ix ix_list (pv 1) (pe_fn G_law_draw (hr.mono (by decide)) (by rfl) (pa_cons (pv 0) (pa_cons (pe_callB call_len_seq (by rfl) T.z_len (by decide +kernel) (pa_cons (pv 1) pa_nil)) pa_nil))) (fun _ _ => rfl))) (pss_cons (ps_set (i := 6) sc_law_word.nd rfl (Or.inl rfl) (pe_fn G_law_draw (hr.mono (by decide)) (by rfl) (pa_cons (pv 0) (pa_cons (pe_op op_add (pe_callB call_len_str (by rfl) T.z_len (by decide +kernel) (pa_cons (pv 5) pa_nil)) pe_int) pa_nil)))) (pss_one (ps_set (i := 4) sc_law_word.nd rfl (Or.inl rfl) (pe_slice sl_str (pe_op op_add_str (pe_op op_add_str (pe_slice sl_str (pv 5) po_none (po_some (pv 6))) (pe_ix ix_str (pv 2) (pe_fn G_law_draw (hr.mono (by decide)) (by rfl) (pa_cons (pv 0) (pa_cons pe_int pa_nil))) (fun _ _ => rfl))) (pe_slice sl_str (pv 5) (po_some (pe_op op_add (pv 6) (pe_fn G_law_draw (hr.mono (by decide)) (by rfl) (pa_cons (pv 0) (pa_cons pe_int pa_nil))))) po_none)) po_none (po_some pe_int)))))) (pss_one (ps_if (pt_cmpR op_lt (pv 3) pe_int (nomark _)) (pss_one (ps_set (i := 4) sc_law_word.nd rfl (Or.inl rfl) (pe_join pe_str (pe_lc (own := [("k", 8)]) (g := gName 8) (by rfl) sc_law_word.nd (pi_range1 rfl T.z_range (pa_cons (pe_op op_add pe_int (pe_fn G_law_draw (hr.mono (by decide)) (by rfl) (pa_cons (pv 0) (pa_cons pe_int pa_nil)))) pa_nil)) (blkOk_by (own := [("k", 8)]) (N := ["well", "taken", "letters", "way", "word", "near", "at", "spare", "k"]) (sc := defScope s_law_word) (by decide +kernel)) (fun _ _ _ _ _ => pg_name (i := 8) sc_law_word.nd rfl (by first | exact Or.inl rfl | exact Or.inr rfl)) (fun _ _ _ _ _ => pts_nil) (fun _ _ _ _ _ => (pe_ix ix_str (pv 2) (pe_fn G_law_draw (hr.mono (by decide)) (by rfl) (pa_cons (pv 0) (pa_cons pe_int pa_nil))) (fun _ _ => rfl))))))) pss_nil))) (pss_cons (ps_for PassesOwn.never rfl (pi_range1 rfl T.z_range (pa_cons pe_int pa_nil)) (pg_name (i := 7) sc_law_word.nd rfl (Or.inl rfl)) (pss_cons (ps_if (pt_cmpR op_notIn_seq (pv 4) (pv 1) (by rfl)) (pss_one (ps_ret (pv 4))) pss_nil) (pss_one (ps_set (i := 4) sc_law_word.nd rfl (Or.inl rfl) (pe_op op_add_str (pe_ix ix_str (pv 2) (pe_op op_mod (pv 7) pe_int) (fun _ _ => rfl)) (pe_ix ix_str (pv 2) (pe_op op_fdivW (pv 7) pe_int) (fun _ _ => rfl))))))) (pss_one (ps_ret (pv 4)))))))), ?_⟩
    refine ⟨_, rfl, w, _, N, rfl, hw, by omega, by decide, by decide, fun r1 H1 r10 r11 s1 w1 => ?_⟩
    refine ⟨(show 7 ≤ sizeLine by decide), fun p hp => ⟨_, rfl, w, _, N + 1, rfl, w1.new hp, by omega, by decide, by decide, fun r2 H2 r20 r21 s2 w2 => ?_⟩⟩
    have pw : p ≠ w := fun z => w1.ne (z ▸ hp)
    have hp2 := s2 p _ pw (upd_same (H := H1) (o := .lst ((["columns", "kind", "check", "new", "step", "held", "taken"] : List Str).map V.str)))
    obtain ⟨wd, hwd, hat⟩ := at_strs (xs := ["columns", "kind", "check", "new", "step", "held", "taken"]) r20 (by simpa using r21)
    have hwn : isNm wd = true := by
      have key : ∀ x ∈ (["columns", "kind", "check", "new", "step", "held", "taken"] : List Str), isNm x = true := by decide +kernel
      exact key wd hwd
    refine ⟨p, _, r2, .str wd, rfl, rfl, SqL.of hp2, hat, ?_⟩
    have sm2 : Sm w H H2 := s1.trans ((Sm.same (same_upd hp)).trans s2)
    refine ⟨fun σ' H' => ∃ v5 v6 wd, σ' = [some (.ref w), some (.ref t), some (.str "abcdefghijklmnopqrstuvwxyz"), some (.int r1), some (.str wd), v5, v6, none, none] ∧ isNm wd = true ∧ Sm w H H' ∧ Wl H' w (N + 20), ?_, ?_⟩
    · skip
      refine ⟨_, rfl, rfl, _, rfl, ?_⟩
      have htk2 : H2 t = some (.lst (taken.map V.str)) := sm2 t _ ntw ht
      have w2' : Wl H2 w (N + 2) := w2
      refine ite2 (fun h5 => ?_) (fun h5 => ?_)
      refine ⟨_, rfl, Nat.zero_le _, fun p2 hp2 => ?_⟩
      have sB : Sm w H (upd H2 p2 (.lst [])) := sm2.trans (Sm.same (same_upd hp2))
      have wB : Wl (upd H2 p2 (.lst [])) w (N + 2) := w2'.new hp2
      have htk3 : (upd H2 p2 (.lst [])) t = some (.lst (taken.map V.str)) := same_upd hp2 _ _ htk2
      refine ⟨dStrs taken, .list [], R.dpp (R_dStrs.mpr ⟨t, rfl, htk3⟩) (Same.refl _) (plain_dStrs hnm), R.dpp (R_list.mpr ⟨p2, [], rfl, upd_same, by simp [RA]⟩) (Same.refl _) (by simp [plain, plainAll]), shaped_of (plain_dStrs hnm) (Nat.le_trans (depth_dStrs _) (by decide)), by decide, _, rfl, ?_⟩
      refine ite2 (fun hne => ?_) (fun hne => ?_)
      · skip
        have tne : 0 < taken.length := by
          cases taken with
          | nil => exact absurd hne (by decide)
          | cons a r => simp
        refine ⟨_, rfl, _, rfl, _, rfl, _, _, rfl, .inl (SqL.of htk3), w, _, N + 2, rfl, wB, by omega, by rw [List.length_map]; omega, by rw [List.length_map]; omega, fun r3 H3 r30 r31 s3 w3 => ?_⟩
        rw [List.length_map] at r31
        obtain ⟨nr, hnr, hatn⟩ := at_strs (xs := taken) r30 r31
        obtain ⟨l1, l8, lt⟩ := (isNm_iff nr).mp (hnm nr hnr)
        have nz : nr.length ≤ sizeLine := Nat.le_trans l8 (by decide)
        refine ⟨_, _, _, _, rfl, rfl, SqL.of (s3 t _ ntw htk3), hatn, ?_⟩
        refine ⟨_, rfl, _, rfl, _, rfl, nz, _, _, rfl, rfl, w, _, N + 3, rfl, w3, by omega, by omega, by omega, fun r4 H4 r40 r41 s4 w4 => ?_⟩
        refine ⟨_, rfl, _, rfl, _, rfl, _, rfl, nz, _, rfl, _, rfl, w, _, N + 4, rfl, w4, by omega, by decide, by decide, fun r5 H5 r50 r51 s5 w5 => ?_⟩
        obtain ⟨c5, k5, a5, _⟩ := let_at r50 r51
        have zA := cutS_length nr none (some r4)
        refine ⟨_, _, c5, rfl, rfl, let_len, a5, _, _, rfl, rfl, ?_, ?_⟩
        · exact Nat.le_trans (show (cutS nr none (some r4)).length + 1 ≤ 9 by omega) (by decide)
        refine ⟨_, rfl, _, rfl, _, rfl, w, _, N + 5, rfl, w5, by omega, by decide, by decide, fun r6 H6 r60 r61 s6 w6 => ?_⟩
        have zB := cutS_length nr (some (r4 + r6)) none
        have lA : (cutS nr none (some r4) ++ (⟨#[c5]⟩ : Str)).length = (cutS nr none (some r4)).length + 1 := len_app _ _
        have lB := len_app (cutS nr none (some r4) ++ (⟨#[c5]⟩ : Str)) (cutS nr (some (r4 + r6)) none)
        refine ⟨_, _, rfl, rfl, _, rfl, _, rfl, nz, _, _, rfl, rfl, ?_, ?_⟩
        · exact Nat.le_trans (show (cutS nr none (some r4) ++ (⟨#[c5]⟩ : Str)).length + (cutS nr (some (r4 + r6)) none).length ≤ 20 by omega) (by decide)
        refine ⟨_, rfl, _, rfl, ?_, ?_⟩
        · exact Nat.le_trans (show (cutS nr none (some r4) ++ (⟨#[c5]⟩ : Str) ++ cutS nr (some (r4 + r6)) none).length ≤ 20 by omega) (by decide)
        refine ⟨_, _, _, rfl, (isNm_iff _).mpr ⟨?_, ?_, ?_⟩, sB.trans (s3.trans (s4.trans (s5.trans s6))), w6.mono (by omega)⟩
        · rw [cut8]; omega
        · rw [cut8]; omega
        · exact (((lt.cut _ _).app (lts_one k5)).app (lt.cut _ _)).cut _ _
      rotate_left
      have sB : Sm w H H2 := sm2
      have wB : Wl H2 w (N + 2) := w2'
      all_goals
        refine ⟨_, rfl, _, _, rfl, rfl, _, rfl, ?_⟩
        refine ite2 (fun c4 => ?_) (fun c4 => ?_)
        · refine ⟨⟨_, rfl⟩, ?_⟩
          refine ⟨_, rfl, w, _, N + 2, rfl, wB, by omega, by decide, by decide, fun r3 H3 r30 r31 s3 w3 => ?_⟩
          refine ⟨_, _, rfl, rfl, _, rfl, by omega, by omega, fun D hD => ?_⟩
          have hDw : D ≠ w := fun z => w3.ne (z ▸ hD)
          refine lc_range (lo := 0) (fun i H' => ∃ zs : List Str, zs.length = i ∧ (∀ z ∈ zs, z.length = 1 ∧ Lts z) ∧ Sm w H H' ∧ Wl H' w (N + 3 + i) ∧ H' D = some (.lst (zs.map V.str)))
            ⟨[], rfl, (fun z h => nomatch h), (sB.trans s3).trans (Sm.same (same_upd hD)), w3.new hD, upd_same⟩ ?_ ?_
          · rintro i H' hi ⟨zs, el, hz, sm, wl, hl⟩
            refine ⟨rfl, _, rfl, _, rfl, w, _, N + 3 + i, rfl, wl, by omega, by decide, by decide, fun r5 H5 r50 r51 s5 w5 => ?_⟩
            obtain ⟨c5, k5, a5, _⟩ := let_at r50 r51
            refine ⟨_, _, c5, rfl, rfl, let_len, a5, ?_⟩
            refine ⟨_, s5 D _ hDw hl, by rw [List.length_map]; exact small1000 (by omega), zs ++ [(⟨#[c5]⟩ : Str)], by simp [el], ?_, ?_, (w5.put hDw).mono (by omega), by rw [upd_same, List.map_append]; rfl⟩
            · intro z hz'
              rcases List.mem_append.mp hz' with h | h
              · exact hz z h
              · rw [List.mem_singleton.mp h]; exact ⟨rfl, lts_one k5⟩
            · have hD0 : H D = none := by
                cases qd : H D with
                | none => rfl
                | some o => have := (sB.trans s3) D o hDw qd; rw [hD] at this; cases this
              exact Sm.new (sm.trans s5) hD0
          · rintro H' ⟨zs, el, hz, sm, wl, hl⟩
            obtain ⟨j1, j2⟩ := join_ones zs hz
            have zl : (zs.map (·.length)).sum ≤ 8 := by rw [sum_ones zs fun z h => (hz z h).1]; omega
            refine ⟨_, D, zs, rfl, rfl, .inl (SqL.of hl), ?_, ?_⟩
            · show (zs.map (·.length)).sum + zs.length * (("" : Str).length) ≤ 16777216
              rw [show ("" : Str).length = 0 from rfl]
              omega
            · exact ⟨_, _, _, rfl, (isNm_iff _).mpr ⟨by rw [j1]; omega, by rw [j1]; omega, j2⟩, sm, wl.mono (by omega)⟩
        · exact ⟨_, _, _, rfl, hwn, sB, wB.mono (by omega)⟩
    · skip
      rintro σ' H3 ⟨v5, v6, wd, rfl, hwn, sm3, w3⟩
      refine ⟨_, rfl, by decide, by decide, for_range (lo := 0) (n := 676) (fun i σ' H' => ∃ v5 v6 v7 wd, σ' = [some (.ref w), some (.ref t), some (.str "abcdefghijklmnopqrstuvwxyz"), some (.int r1), some (.str wd), v5, v6, v7, none] ∧ isNm wd = true ∧
        Sm w H H' ∧ Wl H' w (N + 20) ∧ (∀ j, j + 1 = i → wd = fw j) ∧ ∀ j, j + 1 < i → fw j ∈ taken) ⟨v5, v6, none, wd, rfl, hwn, sm3, w3, (fun j h => by omega), (fun j h => by omega)⟩ ?_ ?_⟩
      · rintro i σ' H' hi ⟨v5, v6, v7, wd, rfl, hwn, sm, wl, hlast, hall⟩
        refine ⟨_, rfl, _, rfl, t, _, rfl, .inl (SqL.of (sm t _ ntw ht)), rfl, flat_strs taken, _, rfl, ?_⟩
        rw [inV_strs]
        by_cases hin : wd ∈ taken
        · rw [decide_eq_true hin]
          obtain ⟨c1, l1, a1, e1⟩ := let_at (i := (0 + (i : Int)) % 26) (Int.emod_nonneg _ (by decide)) (Int.emod_lt_of_pos _ (by decide))
          obtain ⟨c2, l2, a2, e2⟩ := let_at (i := (0 + (i : Int)) / 26) (Int.ediv_nonneg (by omega) (by decide)) (by omega)
          refine ⟨_, rfl, _, rfl, _, _, rfl, rfl, (show (0 : Int) < 26 by decide), _, _, c1, rfl, rfl, let_len, a1, ?_⟩
          refine ⟨_, rfl, _, rfl, _, _, rfl, rfl, wide_div (b := 10) (by decide) (by decide) (by decide) (by decide), _, _, c2, rfl, rfl, let_len, a2, _, _, rfl, rfl, (show 1 + 1 ≤ sizeLine by decide), ?_⟩
          have ef : (⟨#[c1]⟩ : Str) ++ (⟨#[c2]⟩ : Str) = fw i := by
            unfold fw
            rw [e1, e2, show ((0 + (i : Int)) % 26).toNat = i % 26 by omega, show ((0 + (i : Int)) / 26).toNat = i / 26 by omega]
          refine ⟨v5, v6, some (.int (0 + (i : Int))), fw i, ?_, fw_nm i (by omega), sm, wl, fun j h => by rw [show j = i by omega], fun j h => ?_⟩
          · rw [← ef]; rfl
          · by_cases hj : j + 1 = i
            · rw [← hlast j hj]; exact hin
            · exact hall j (by omega)
        · rw [decide_eq_false hin]
          exact ⟨_, rfl, q wd H' hwn hin sm wl⟩
      · rintro σ' H' ⟨v5, v6, v7, wd, rfl, hwn, sm, wl, hlast, hall⟩
        exfalso
        have := nodup_sub_len fw_nodup (m := taken) fun x hx => by
          obtain ⟨j, hj, rfl⟩ := List.mem_map.mp hx
          exact hall j (by have := List.mem_range.mp hj; omega)
        rw [List.length_map, List.length_range] at this
        omega
end
end Pz
namespace Pz
open PySem L2
open PyProof.Rows (envOfC)
/-! ### _law_steps -/
theorem at_back {xs : List Str} {r : Int} (h0 : 0 ≤ r) (h1 : r < xs.length) : ∃ z, z ∈ xs ∧ atI (xs.map V.str) (0 - 1 - r) = some (.str z) := by
  have hn : xs.length - 1 - r.toNat < xs.length := by omega
  refine ⟨xs[xs.length - 1 - r.toNat], List.getElem_mem hn, ?_⟩
  have e : ixN (xs.map V.str).length (0 - 1 - r) = some (xs.length - 1 - r.toNat) := by
    unfold ixN
    rw [List.length_map, if_neg (by omega), if_pos (by omega)]
    congr 1
    omega
  unfold atI
  rw [e]
  show (xs.map V.str)[xs.length - 1 - r.toNat]? = _
  rw [List.getElem?_map, List.getElem?_eq_getElem hn]
  rfl
theorem Gr.well {F H F' H' H2 : Hp} {w : Addr} (g : Gr F H F' H') (fw : F' w = none) (s : Sm w H' H2) : Gr F H F' H2 :=
  ⟨g.le, fun b o e => s b o (fun z => by rw [z, fw] at e; cases e) (g.sub b o e), g.new⟩
structure SJ (H F : Hp) (w D wa : Addr) (N : Nat) (ws : List Str) (sts : List (Str × Int × Int)) (H' : Hp) : Prop where
  sm : Sm w H H'
  wl : Wl H' w N
  ws_ : H' wa = some (.lst (ws.map V.str))
  ex : ∃ F' ys, H' D = some (.lst ys) ∧ Gr F H F' H' ∧ F' w = none ∧ F' D = none ∧ RA F' (sts.map dStep) ys
section
variable {H F H' H2 : Hp} {w D wa : Addr} {N M : Nat} {ws : List Str} {sts : List (Str × Int × Int)}
theorem SJ.draw (h : SJ H F w D wa N ws sts H') (nD : D ≠ w) (s : Sm w H' H2) (wl : Wl H2 w M) : SJ H F w D wa M ws sts H2 := by
  obtain ⟨F', ys, h1, h2, h3, h4, h5⟩ := h.ex
  exact ⟨h.sm.trans s, wl, s _ _ (wl_not_strs h.wl h.ws_) h.ws_, F', ys, s _ _ nD h1, h2.well h3 s, h3, h4, h5⟩
theorem SJ.same (h : SJ H F w D wa N ws sts H') (s : Same H' H2) : SJ H F w D wa N ws sts H2 := by
  obtain ⟨F', ys, h1, h2, h3, h4, h5⟩ := h.ex
  exact ⟨h.sm.trans (Sm.same s), h.wl.same s, s _ _ h.ws_, F', ys, s _ _ h1, h2.step s, h3, h4, h5⟩
theorem SJ.mono (h : SJ H F w D wa N ws sts H') (l : N ≤ M) : SJ H F w D wa M ws sts H' := ⟨h.sm, h.wl.mono l, h.ws_, h.ex⟩
/-- other words -/
theorem SJ.words {wb : Addr} {ws' : List Str} (h : SJ H F w D wa N ws sts H') (e : H' wb = some (.lst (ws'.map V.str))) : SJ H F w D wb N ws' sts H' := ⟨h.sm, h.wl, e, h.ex⟩
end
structure GoodSt (n : Int) (sts : List (Str × Int × Int)) : Prop where
  stp : ∀ s ∈ sts, isNm s.1 = true ∧ 0 ≤ s.2.1 ∧ s.2.1 < n ∧ 0 ≤ s.2.2 ∧ s.2.2 < n
  nd : (sts.map fun s => (s.1, s.2.1)).Nodup
def spLSteps : Sp := fun vs H Q _ => ∃ (w wa : Addr) (n : Int) (m : Nat) (ws : List Str) (N : Nat) (F : Hp), vs = [.ref w, .int n, .ref wa, .int m] ∧ H wa = some (.lst (ws.map V.str)) ∧ Wl H w N ∧ N ≤ 1000000 ∧ Same F H ∧ F w = none ∧
  0 < n ∧ n ≤ 40 ∧ m ≤ 30 ∧ 0 < ws.length ∧ ws.length ≤ 40 ∧ (∀ x ∈ ws, isNm x = true) ∧
  ∀ (p : Addr) (sts : List (Str × Int × Int)) (H' F' : Hp), H p = none → GoodSt n sts → sts.length ≤ m → Sm w H H' → Wl H' w (N + 1300) → Gr F H F' H' → R F' (.list (sts.map dStep)) (.ref p) → Q (.ref p) H'
section
variable {P : Program} {w : World} {K : PySem.W.Frag} {mg : Str → Option Value} {base : Heap}
theorem ok_law_steps (T : Txt K mg) : Fn P w K mg base 3 "_law_steps" ["well", "size", "words", "most"] spLSteps := by
  have G_law_draw := ok_law_draw (P := P) (w := w) (base := base) T
  have G_law_word := ok_law_word (P := P) (w := w) (base := base) T
  refine T.d_law_steps.fn sc_law_steps (fun vs H Q E h => ?_) (fun cdv A outer f s H vs Q E hr h => ?_)
  · obtain ⟨_, _, _, _, _, _, _, rfl, _⟩ := h; rfl
  · obtain ⟨w, wa, n, m, ws, N, F, rfl, hwa, hw, hN, sF, fw0, n0, n1, hm, wne, wlen, wnm, q⟩ := h
    refine ⟨_, (pss_cons (ps_set (i := 4) sc_law_steps.nd rfl (Or.inl rfl) (pe_lst pa_nil)) (pss_cons (ps_for PassesOwn.never rfl (pi_range1 rfl T.z_range (pa_cons (pe_fn G_law_draw (hr.mono (by decide)) (by rfl) (pa_cons (pv 0) (pa_cons (pe_op op_add (pv 3) pe_int) pa_nil))) pa_nil)) (pg_name (i := 5) sc_law_steps.nd rfl (Or.inl rfl)) (C8.pss_cut (ps_set (i := 6) sc_law_steps.nd rfl (Or.inl rfl) (pe_ifExp (pt_cmpR op_eq (pe_fn G_law_draw (hr.mono (by decide)) (by rfl) (pa_cons (pv 0) (pa_cons pe_int pa_nil))) pe_int (nomark _)) (pe_fn G_law_draw (hr.mono (by decide)) (by rfl) (pa_cons (pv 0) (pa_cons (pv 1) pa_nil))) (pe_op op_mod (pv 5) (pv 1)))) (C8.pss_cut (ps_set (i := 7) sc_law_steps.nd rfl (Or.inl rfl) (pe_ifExp (pt_cmpR op_eq (pe_fn G_law_draw (hr.mono (by decide)) (by rfl) (pa_cons (pv 0) (pa_cons pe_int pa_nil))) pe_int (nomark _)) (pe_fn G_law_draw (hr.mono (by decide)) (by rfl) (pa_cons (pv 0) (pa_cons (pv 1) pa_nil))) (pe_callB (call_min2 rfl) (by rfl) T.z_min (by decide +kernel) (pa_cons (pe_op op_add (pv 6) pe_int) (pa_cons (pe_op op_sub (pv 1) pe_int) pa_nil))))) (C8.pss_cut (ps_if (pt_cmpR op_gt (pe_fn G_law_draw (hr.mono (by decide)) (by rfl) (pa_cons (pv 0) (pa_cons pe_int pa_nil))) pe_int (nomark _)) (pss_one (ps_set (i := 2) sc_law_steps.nd rfl (Or.inl rfl) (pe_op op_cat (pv 2) (pe_lst (pa_cons (pe_fn G_law_word (hr.mono (by decide)) (by rfl) (pa_cons (pv 0) (pa_cons (pv 2) pa_nil))) pa_nil))))) pss_nil) (pss_cons (ps_set (i := 8) sc_law_steps.nd rfl (Or.inl rfl) (pe_ix ix_list (pv 2) (pe_op op_sub (pe_op op_sub pe_int pe_int) (pe_fn G_law_draw (hr.mono (by decide)) (by rfl) (pa_cons (pv 0) (pa_cons (pe_callB call_len_seq (by rfl) T.z_len (by decide +kernel) (pa_cons (pv 2) pa_nil)) pa_nil)))) (fun _ _ => rfl))) (pss_one (ps_if (pt_cmpR (op_notInD (hu65 hr)) (pe_tup (pa_cons (pv 8) (pa_cons (pv 6) pa_nil))) (pe_lc (own := [("step", 9)]) (g := gName 9) (by rfl) sc_law_steps.nd (pi_list (pv 4)) (blkOk_by (own := [("step", 9)]) (N := ["well", "size", "words", "most", "steps", "k", "start", "end", "name", "step"]) (sc := defScope s_law_steps) (by decide +kernel)) (fun _ _ _ _ _ => pg_name (i := 9) sc_law_steps.nd rfl (by first | exact Or.inl rfl | exact Or.inr rfl)) (fun _ _ _ _ _ => pts_nil) (fun _ _ _ _ _ => (pe_slice (sl_tupK (K := K)) (pv 9) po_none (po_some pe_int)))) (by rfl)) (pss_one (ps_expr (pe_bm PySem.F.plainAttrs_list PySem.F.slot_list_append PySem.F.type_list_append mt_append (pv 4) (pa_cons (pe_tup (pa_cons (pv 8) (pa_cons (pv 6) (pa_cons (pv 7) pa_nil)))) pa_nil)))) pss_nil))))))) (pss_one (ps_ret (pv 4))))), ?_⟩
    refine ⟨Nat.zero_le _, fun D hD => ?_⟩
    have wD := hw.new (o := .lst []) hD
    have nD : D ≠ w := fun z => hw.ne (z ▸ hD)
    have fD : F D = none := same_none sF hD
    refine ⟨_, rfl, _, rfl, _, _, rfl, rfl, w, _, N, (by rfl), wD, by omega, by omega, by omega, fun r0 H1 r00 r01 s1 w1 => ?_⟩
    have j0 : SJ H F w D wa N ws [] (upd H D (.lst [])) := ⟨Sm.same (same_upd hD), wD, same_upd hD _ _ hwa, F, [], upd_same, (Gr.refl sF).put fD, fw0, fD, by simp [RA]⟩
    refine ⟨_, rfl, by omega, by omega, for_range (lo := 0) (n := r0.toNat) (fun i σ H' => ∃ wb ws' sts v5 v6 v7 v8, σ = [some (.ref w), some (.int n), some (.ref wb), some (.int m), some (.ref D), v5, v6, v7, v8, none] ∧
      SJ H F w D wb (N + 1 + 30 * i) ws' sts H' ∧ GoodSt n sts ∧ sts.length ≤ i ∧ 0 < ws'.length ∧ ws'.length ≤ 40 + i ∧ ∀ x ∈ ws', isNm x = true)
      ⟨wa, ws, [], none, none, none, none, rfl, (j0.draw nD s1 w1), ⟨(fun s h => nomatch h), by simp⟩, Nat.le_refl _, wne, wlen, wnm⟩ ?_ ?_⟩
    · rintro i σ H' hi ⟨wb, ws', sts, v5, v6, v7, v8, rfl, j, gs, sl, wne', wl', wnm'⟩
      have hi30 : i < 30 := by omega
      refine ⟨fun σ' H2 => ∃ st : Int, σ' = [some (.ref w), some (.int n), some (.ref wb), some (.int m), some (.ref D), some (.int (0 + (i : Int))), some (.int st), v7, v8, none] ∧ 0 ≤ st ∧ st < n ∧ SJ H F w D wb (N + 1 + 30 * i + 2) ws' sts H2, ?_, ?_⟩
      · refine ⟨_, rfl, w, _, N + 1 + 30 * i, (by rfl), j.wl, by omega, by decide, by decide, fun r1 H2 r10 r11 s2 w2 => ⟨rfl, _, rfl, ?_⟩⟩
        refine ite2 (fun c => ?_) (fun c => ?_)
        · refine ⟨_, rfl, _, rfl, w, _, N + 1 + 30 * i + 1, (by rfl), w2, by omega, n0, by omega, fun r2 H3 r20 r21 s3 w3 => ?_⟩
          exact ⟨r2, rfl, r20, r21, (j.draw nD s2 w2).draw nD s3 w3⟩
        · refine ⟨_, rfl, _, rfl, _, _, rfl, rfl, n0, ?_⟩
          exact ⟨_, rfl, Int.emod_nonneg _ (by omega), Int.emod_lt_of_pos _ n0, (j.draw nD s2 w2).mono (by omega)⟩
      rintro σ' H2 ⟨st, rfl, st0, st1, j2⟩
      refine ⟨fun σ' H3 => ∃ en : Int, σ' = [some (.ref w), some (.int n), some (.ref wb), some (.int m), some (.ref D), some (.int (0 + (i : Int))), some (.int st), some (.int en), v8, none] ∧ 0 ≤ en ∧ en < n ∧ SJ H F w D wb (N + 1 + 30 * i + 4) ws' sts H3, ?_, ?_⟩
      · refine ⟨_, rfl, w, _, N + 1 + 30 * i + 2, (by rfl), j2.wl, by omega, by decide, by decide, fun r1 H3 r10 r11 s2 w2 => ⟨rfl, _, rfl, ?_⟩⟩
        refine ite2 (fun c => ?_) (fun c => ?_)
        · refine ⟨_, rfl, _, rfl, w, _, N + 1 + 30 * i + 2 + 1, (by rfl), w2, by omega, n0, by omega, fun r2 H3 r20 r21 s3 w3 => ?_⟩
          exact ⟨r2, rfl, r20, r21, (j2.draw nD s2 w2).draw nD s3 w3⟩
        · refine ⟨_, rfl, _, _, rfl, rfl, _, rfl, _, _, rfl, rfl, _, _, rfl, ?_⟩
          refine ⟨_, rfl, ?_, ?_, (j2.draw nD s2 w2).mono (by omega)⟩
          · split <;> omega
          · split <;> omega
      rintro σ' H3 ⟨en, rfl, en0, en1, j3⟩
      refine ⟨fun σ' H4 => ∃ wc ws2, σ' = [some (.ref w), some (.int n), some (.ref wc), some (.int m), some (.ref D), some (.int (0 + (i : Int))), some (.int st), some (.int en), v8, none] ∧ SJ H F w D wc (N + 1 + 30 * i + 25) ws2 sts H4 ∧ 0 < ws2.length ∧ ws2.length ≤ 40 + (i + 1) ∧ ∀ x ∈ ws2, isNm x = true, ?_, ?_⟩
      · refine ⟨_, rfl, w, _, N + 1 + 30 * i + 4, (by rfl), j3.wl, by omega, by decide, by decide, fun r1 H4 r10 r11 s2 w2 => ⟨_, _, rfl, rfl, _, rfl, ?_⟩⟩
        have j4 := j3.draw nD s2 w2
        refine ite2 (fun c => ?_) (fun c => ?_)
        · refine ⟨_, rfl, _, rfl, _, rfl, w, wb, ws', N + 1 + 30 * i + 5, (by rfl), j4.ws_, j4.wl, by omega, by omega, wnm', fun z H5 znm zin s5 w5 => ?_⟩
          have j5 := j4.draw nD s5 w5
          refine ⟨(show 1 ≤ sizeLine by decide), fun p hp => ?_⟩
          have j6 := j5.same (same_upd (o := .lst [.str z]) hp)
          refine ⟨wb, p, _, _, rfl, rfl, j6.ws_, upd_same, ?_, fun p2 hp2 => ?_⟩
          · rw [List.length_map]; exact Nat.le_trans (show ws'.length + 1 ≤ 1000 by omega) (by decide)
          have j7 := j6.same (same_upd (o := .lst (ws'.map V.str ++ [.str z])) hp2)
          refine ⟨p2, ws' ++ [z], rfl, (j7.words (by rw [upd_same, List.map_append]; rfl)).mono (by omega), by simp, by simp; omega, ?_⟩
          intro x hx
          rcases List.mem_append.mp hx with hx | hx
          · exact wnm' x hx
          · rw [List.mem_singleton.mp hx]; exact znm
        · exact ⟨wb, ws', rfl, j4.mono (by omega), wne', by omega, wnm'⟩
      rintro σ' H4 ⟨wc, ws2, rfl, j4, wne2, wl2, wnm2⟩
      refine ⟨_, rfl, _, _, rfl, rfl, _, rfl, _, rfl, wc, _, rfl, .inl (SqL.of j4.ws_), w, _, N + 1 + 30 * i + 25, (by rfl), j4.wl, by omega, by rw [List.length_map]; omega, by rw [List.length_map]; omega, fun r1 H5 r10 r11 s5 w5 => ?_⟩
      rw [List.length_map] at r11
      have j5 := j4.draw nD s5 w5
      obtain ⟨nm, hnm, hat⟩ := at_back r10 r11
      have nmok := wnm2 nm hnm
      refine ⟨_, _, rfl, rfl, wc, _, _, .str nm, rfl, rfl, SqL.of j5.ws_, hat, ?_⟩
      refine ⟨_, rfl, _, rfl, (show 2 ≤ sizeLine by decide), fun p hp => ?_⟩
      have j6 := j5.same (same_upd (o := .tup [.str nm, .int st]) hp)
      have hp6 : (upd H5 p (.tup [.str nm, .int st])) p = some (.tup [.str nm, .int st]) := upd_same
      generalize upd H5 p (.tup [.str nm, .int st]) = H6 at *
      obtain ⟨F6, ys, hD6, g6, fw6, fD6, ra6⟩ := j6.ex
      have yl : ys.length = sts.length := by have := RA.len ra6; simpa using this
      refine ⟨_, rfl, D, rfl, ⟨_, SqL.of hD6⟩, fun D2 hD2 => ?_⟩
      refine lc_data (K := K) (a := D) (xs := ys) (F0 := F6) (sts.map fun s => dNS (s.1, s.2.1)) (by simp [yl]) (by omega) (SqL.of hD6) hD2 g6.sub (fun k x d F' H' Q' hx hd s7 g7 nD7 fD7 kk => ?_) (fun F7 H7 zs s7 g7 fD7 ra7 hD7 => ?_)
      · have hk : k < sts.length := by rw [← yl]; exact (List.getElem?_eq_some_iff.mp hx).1
        have hsk : sts[k]? = some sts[k] := List.getElem?_eq_getElem hk
        rw [List.getElem?_map, hsk] at hd
        cases hd
        obtain ⟨x', hx', hR⟩ := RA.at ra6 (show (sts.map dStep)[k]? = some (dStep sts[k]) by rw [List.getElem?_map, hsk]; rfl)
        rw [hx] at hx'
        cases hx'
        obtain ⟨a, rfl, ha⟩ := R_dStep.mp hR
        refine ⟨rfl, _, rfl, _, rfl, a, _, rfl, SqT.of (g7.sub _ _ (g7.le _ _ ha)), (show ¬(HT.sIx 3 0 none = 0 ∧ HT.sIx 3 3 (some 2) = 3) by decide), fun p2 hp2 => ?_⟩
        exact kk _ _ _ (same_upd hp2) (Gr.one (g7.sub.trans (same_upd hp2)) hp2 upd_same) (R_dNS.mpr ⟨p2, rfl, upd_same⟩)
      have oks : ∀ s ∈ (sts.map fun s => (s.1, s.2.1)), PyData.strOk s.1 = true := fun s hs => by
        obtain ⟨z, hz, rfl⟩ := List.mem_map.mp hs
        exact nm_ok (gs.stp z hz).1
      have okn : PyData.strOk (nm, st).1 = true := nm_ok nmok
      have ed : (sts.map fun s => dNS (s.1, s.2.1)) = (sts.map fun s => (s.1, s.2.1)).map dNS := by rw [List.map_map]; rfl
      rw [ed] at ra7
      refine ⟨dNS (nm, st), (sts.map fun s => (s.1, s.2.1)).map dNS, R.dpp (R_dNS.mpr ⟨p, rfl, s7 _ _ hp6⟩) (Same.refl _) (plain_dNS okn),
        R.dpp (R_list.mpr ⟨D2, zs, rfl, hD7, RA.mono g7.sub _ _ ra7⟩) (Same.refl _) (plain_dNSs oks), shaped_of (plain_dNS okn) (by simp [dNS, PyData.depth, PyData.depthAll]), shaped_of (plain_dNSs oks) (depth_dNSs _), _, rfl, ?_⟩
      have j7 := j6.same s7
      refine ite2 (fun c => ?_) (fun c => ?_)
      · skip
        have hnew : (nm, st) ∉ (sts.map fun s => (s.1, s.2.1)) := fun hin => by
          have : (((sts.map fun s => (s.1, s.2.1)).map dNS).any fun z => PyData.eqv z (dNS (nm, st))) = true := by
            rw [List.any_eq_true]
            exact ⟨dNS (nm, st), List.mem_map.mpr ⟨_, hin, rfl⟩, eqv_eq (plain_dNS okn) (plain_dNS okn) rfl⟩
          rw [this] at c
          exact absurd c (by decide)
        have hD7' : H7 D = some (.lst ys) := s7 _ _ hD6
        refine ⟨_, rfl, .inl ⟨rfl, _, SqL.of hD7'⟩, _, rfl, _, rfl, _, rfl, (show 3 ≤ sizeLine by decide), fun p3 hp3 => ?_⟩
        have s8 := same_upd (o := .tup [.str nm, .int st, .int en]) hp3
        refine ⟨_, _, _, rfl, rfl, s8 _ _ hD7', small1000 (by omega), ?_⟩
        have nDp : D ≠ p3 := fun z => by rw [z, hp3] at hD7'; cases hD7'
        have j8 := j7.same s8
        have np3w : p3 ≠ w := fun z => j7.wl.ne (z ▸ hp3)
        have hcw := j8.ws_
        have nwcD : wc ≠ D := fun z => by
          rw [z, s8 _ _ hD7'] at hcw
          have hh := Option.some.inj hcw
          injection hh with hh
          cases hws : ws2 with
          | nil => rw [hws] at wne2; exact absurd wne2 (by decide)
          | cons a r =>
            rw [hws] at hh
            cases hys : ys with
            | nil => rw [hys] at hh; cases hh
            | cons y ry =>
              rw [hys] at hh ra6
              cases sts with
              | nil => simp [RA] at ra6
              | cons s0 rs =>
                simp only [List.map_cons, RA] at ra6
                obtain ⟨x, r', e1, hR, _⟩ := ra6
                cases e1
                obtain ⟨_, rfl, _⟩ := R_dStep.mp hR
                cases hh
        have gr8 : Gr H H H H := Gr.refl (Same.refl H)
        have g8 : Gr F H F6 (upd H7 p3 (.tup [.str nm, .int st, .int en])) := (g6.step s7).step s8
        have hp30 : H p3 = none := j7.sm.free j7.wl.ne hp3
        have g9 := g8.snoc (D := p3) (o := .tup [.str nm, .int st, .int en]) hp30 upd_same
        refine ⟨wc, ws2, sts ++ [(nm, st, en)], _, _, _, _, rfl, ⟨?_, ?_, ?_, ?_⟩, ⟨?_, ?_⟩, by simp; omega, wne2, wl2, wnm2⟩
        · exact Sm.new j8.sm hD
        · exact (j8.wl.put nD).mono (by omega)
        · rw [upd_ne nwcD]; exact hcw
        · refine ⟨_, ys ++ [.ref p3], upd_same, g9.put (by rw [upd_ne nDp]; exact fD6), (by rw [upd_ne (Ne.symm np3w)]; exact fw6), (by rw [upd_ne nDp]; exact fD6), ?_⟩
          rw [List.map_append]
          refine RA.append (RA.mono (fun b o e => ?_) _ _ ra6) ?_
          · rw [upd_ne (fun z => by
              have := s7 _ _ (g6.sub _ _ e)
              rw [z, hp3] at this; cases this)]
            exact e
          · show RA _ [dStep (nm, st, en)] _
            simp only [RA]
            exact ⟨_, [], rfl, R_dStep.mpr ⟨p3, rfl, upd_same⟩, rfl⟩
        · intro s hs
          rcases List.mem_append.mp hs with hs | hs
          · exact gs.stp s hs
          · rw [List.mem_singleton.mp hs]
            exact ⟨nmok, st0, st1, en0, en1⟩
        · rw [List.map_append, List.nodup_append]
          refine ⟨gs.nd, by simp, ?_⟩
          intro x hx y hy e
          have hy' : y = (nm, st) := by simpa using hy
          rw [e, hy'] at hx
          exact hnew hx
      · exact ⟨wc, ws2, sts, _, _, _, _, rfl, j7.mono (by omega), gs, by omega, wne2, wl2, wnm2⟩
    · rintro σ H' ⟨wb, ws', sts, v5, v6, v7, v8, rfl, j, gs, sl, wne', wl', wnm'⟩
      obtain ⟨F', ys, h1, h2, h3, h4, h5⟩ := j.ex
      refine ⟨_, rfl, q D sts H' _ hD gs (by omega) j.sm (j.wl.mono (by omega)) (h2.snoc hD h1) (R_list.mpr ⟨D, ys, rfl, upd_same, RA.mono (fun b o e => ?_) _ _ h5⟩)⟩
      rw [upd_ne (fun z => by rw [z, h4] at e; cases e)]
      exact e
end
end Pz
namespace Pz
open PySem L2
open PyProof.Rows (envOfC)
/-! ### _law_data -/
theorem at_ints {xs : List Int} {i : Int} (h0 : 0 ≤ i) (h1 : i < xs.length) : ∃ z, z ∈ xs ∧ atI (xs.map V.int) i = some (.int z) := by
  obtain ⟨n, rfl⟩ := Int.eq_ofNat_of_zero_le h0
  have h2 : n < xs.length := by omega
  refine ⟨xs[n], List.getElem_mem h2, atI_nat ?_⟩
  rw [List.getElem?_map, List.getElem?_eq_getElem h2]
  rfl
/-- a row over the columns -/
def GoodRow (cols : List Str) (row : List Int) : Prop := row.length = cols.length ∧ ∀ x ∈ row, Nm x
structure GoodL (cols : List Str) (k : KD) : Prop where
  nm : isNm k.name = true
  ne : 0 < k.rows.length
  len : k.rows.length ≤ 38
  rows : ∀ row ∈ k.rows, GoodRow cols row
  zero : k.rows[0]? = some (zeros cols)
  st : GoodSt k.rows.length k.steps
  slen : k.steps.length ≤ 36
abbrev KB := Addr × Addr × Addr
/-- a kind of the data: its list of states stands in the heap alone -/
def LKAt (G H' : Hp) (k : KD) (a : KB) : Prop :=
  G a.1 = some (.tup [.str k.name, .ref a.2.1, .ref a.2.2]) ∧ (∃ xs, H' a.2.1 = some (.lst xs) ∧ RA G (k.rows.map dInts) xs) ∧ R G (.list (k.steps.map dStep)) (.ref a.2.2) ∧ G a.2.1 = none
theorem LKAt.mono {G G' H H' : Hp} {k : KD} {a : KB} (h : LKAt G H k a) (g : Same G G') (n : G' a.2.1 = none) (e : ∀ o, H a.2.1 = some o → H' a.2.1 = some o) : LKAt G' H' k a := by
  obtain ⟨h1, ⟨xs, h2, h3⟩, h4, _⟩ := h
  exact ⟨g _ _ h1, ⟨xs, e _ h2, RA.mono g _ _ h3⟩, R.mono g _ _ h4, n⟩
structure KI (H F : Hp) (w nms ks : Addr) (N : Nat) (nml : List Str) (kds : List KD) (kas : List KB) (F' H' : Hp) : Prop where
  sm : Sm w H H'
  wl : Wl H' w N
  nms_ : H' nms = some (.lst (nml.map V.str))
  ks_ : H' ks = some (.lst (kas.map fun a => V.ref a.1))
  gr : Gr F H F' H'
  fw : F' w = none
  fn : F' nms = none
  fk : F' ks = none
  len : kas.length = kds.length
  ct : ∀ (j : Nat) a k, kas[j]? = some a → kds[j]? = some k → LKAt F' H' k a
  nd : (kas.map fun a => a.2.1).Nodup
  fr : ∀ a ∈ kas, H a.2.1 = none ∧ a.2.1 ≠ nms ∧ a.2.1 ≠ ks ∧ a.2.1 ≠ w
theorem KI.step {H F : Hp} {w nms ks : Addr} {N M : Nat} {nml : List Str} {kds : List KD} {kas : List KB} {F' H' F2 H2 : Hp} (h : KI H F w nms ks N nml kds kas F' H') (nw : nms ≠ w) (kw : ks ≠ w)
    (s : Sm w H' H2) (wl : Wl H2 w M) (g : Gr F' H' F2 H2) : KI H F w nms ks M nml kds kas F2 H2 := by
  refine ⟨h.sm.trans s, wl, s _ _ nw h.nms_, s _ _ kw h.ks_, h.gr.trans g (fun x hx => h.sm.free h.wl.ne hx), g.out h.fw h.wl.ne, g.out h.fn (some_ne h.nms_), g.out h.fk (some_ne h.ks_), h.len, ?_, h.nd, h.fr⟩
  intro j a k e1 e2
  have c := h.ct j a k e1 e2
  obtain ⟨xs, hx, _⟩ := c.2.1
  have hw := (h.fr a (List.mem_of_getElem? e1)).2.2.2
  exact c.mono g.le (g.out c.2.2.2 (some_ne hx)) fun o e => s _ _ hw e
theorem KI.draw {H F : Hp} {w nms ks : Addr} {N M : Nat} {nml : List Str} {kds : List KD} {kas : List KB} {F' H' H2 : Hp} (h : KI H F w nms ks N nml kds kas F' H') (nw : nms ≠ w) (kw : ks ≠ w)
    (s : Sm w H' H2) (wl : Wl H2 w M) : KI H F w nms ks M nml kds kas F' H2 :=
  h.step nw kw s wl ⟨Same.refl _, fun b o e => s b o (fun z => by rw [z, h.fw] at e; cases e) (h.gr.sub b o e), fun b hb => .inl hb⟩
theorem KI.same {H F : Hp} {w nms ks : Addr} {N : Nat} {nml : List Str} {kds : List KD} {kas : List KB} {F' H' H2 : Hp} (h : KI H F w nms ks N nml kds kas F' H') (nw : nms ≠ w) (kw : ks ≠ w)
    (s : Same H' H2) : KI H F w nms ks N nml kds kas F' H2 := h.draw nw kw (Sm.same s) (h.wl.same s)
theorem KI.mono {H F : Hp} {w nms ks : Addr} {N M : Nat} {nml : List Str} {kds : List KD} {kas : List KB} {F' H' : Hp} (h : KI H F w nms ks N nml kds kas F' H') (l : N ≤ M) : KI H F w nms ks M nml kds kas F' H' :=
  { h with wl := h.wl.mono l }
/-- a list of ours is written that no kind has -/
theorem KI.put {H F : Hp} {w nms ks D : Addr} {N : Nat} {nml : List Str} {kds : List KD} {kas : List KB} {F' H' : Hp} {o : HO} (h : KI H F w nms ks N nml kds kas F' H') (hD : H D = none) (fD : F' D = none)
    (n1 : D ≠ w) (n2 : D ≠ nms) (n3 : D ≠ ks) (n4 : ∀ a ∈ kas, a.2.1 ≠ D) : KI H F w nms ks N nml kds kas F' (upd H' D o) := by
  refine ⟨Sm.new h.sm hD, h.wl.put n1, by rw [upd_ne (Ne.symm n2)]; exact h.nms_, by rw [upd_ne (Ne.symm n3)]; exact h.ks_, h.gr.put fD, h.fw, h.fn, h.fk, h.len, ?_, h.nd, h.fr⟩
  intro j a k e1 e2
  have c := h.ct j a k e1 e2
  exact c.mono (Same.refl _) c.2.2.2 fun o e => by rw [upd_ne (n4 a (List.mem_of_getElem? e1))]; exact e
/-- the names' list is written -/
theorem KI.names {H F : Hp} {w nms ks : Addr} {N : Nat} {nml nml' : List Str} {kds : List KD} {kas : List KB} {F' H' : Hp} (h : KI H F w nms ks N nml kds kas F' H') (hn : H nms = none) (nw : nms ≠ w) (nk : nms ≠ ks) :
    KI H F w nms ks N nml' kds kas F' (upd H' nms (.lst (nml'.map V.str))) := by
  refine ⟨Sm.new h.sm hn, h.wl.put nw, upd_same, by rw [upd_ne (Ne.symm nk)]; exact h.ks_, h.gr.put h.fn, h.fw, h.fn, h.fk, h.len, ?_, h.nd, h.fr⟩
  intro j a k e1 e2
  have c := h.ct j a k e1 e2
  exact c.mono (Same.refl _) c.2.2.2 fun o e => by rw [upd_ne (h.fr a (List.mem_of_getElem? e1)).2.1]; exact e
/-- a kind more -/
theorem KI.kind {H F : Hp} {w nms ks st sp t : Addr} {N : Nat} {nml : List Str} {kds : List KD} {kas : List KB} {F' H' : Hp} {k : KD} {xs : List V} (h : KI H F w nms ks N nml kds kas F' H') (hk : H ks = none) (kw : ks ≠ w) (nk : nms ≠ ks)
    (ht : H t = none) (et : H' t = some (.tup [.str k.name, .ref st, .ref sp])) (hst : H st = none) (n1 : st ≠ nms) (n2 : st ≠ ks) (n3 : st ≠ w) (n4 : ∀ a ∈ kas, a.2.1 ≠ st)
    (e1 : H' st = some (.lst xs)) (fs : F' st = none) (r1 : RA F' (k.rows.map dInts) xs) (r2 : R F' (.list (k.steps.map dStep)) (.ref sp)) :
    KI H F w nms ks N nml (kds ++ [k]) (kas ++ [(t, st, sp)]) (upd F' t (.tup [.str k.name, .ref st, .ref sp])) (upd H' ks (.lst (kas.map (fun a => V.ref a.1) ++ [.ref t]))) := by
  have tw : t ≠ w := fun z => by
    have := h.wl
    obtain ⟨a, b, c, e, _⟩ := this
    rw [← z, et] at e; cases e
  have tn : t ≠ nms := fun z => by have := h.nms_; rw [← z, et] at this; cases this
  have tk : t ≠ ks := fun z => by have := h.ks_; rw [← z, et] at this; cases this
  have ts : t ≠ st := fun z => by rw [z, e1] at et; cases et
  have le : Same F' (upd F' t (.tup [.str k.name, .ref st, .ref sp])) := fun b o e => by
    by_cases nb : b = t
    · subst nb
      have := h.gr.sub _ _ e
      rw [et] at this
      cases this
      exact upd_same
    · rw [upd_ne nb]; exact e
  refine ⟨Sm.new h.sm hk, h.wl.put kw, by rw [upd_ne nk]; exact h.nms_, by rw [upd_same, List.map_append]; rfl, ?_, by rw [upd_ne (Ne.symm tw)]; exact h.fw, by rw [upd_ne (Ne.symm tn)]; exact h.fn, by rw [upd_ne (Ne.symm tk)]; exact h.fk, by simp [h.len], ?_, ?_, ?_⟩
  · exact (h.gr.snoc ht et).put (by rw [upd_ne (Ne.symm tk)]; exact h.fk)
  · intro j a k' e1' e2'
    by_cases hj : j < kas.length
    · rw [List.getElem?_append_left hj] at e1'
      rw [List.getElem?_append_left (by rw [← h.len]; exact hj)] at e2'
      have ha := List.mem_of_getElem? e1'
      have c := h.ct j a k' e1' e2'
      refine c.mono le ?_ fun o e => by rw [upd_ne (h.fr a ha).2.2.1]; exact e
      have nt : a.2.1 ≠ t := fun z => by
        obtain ⟨ys, hy, _⟩ := c.2.1
        rw [z, et] at hy; cases hy
      rw [upd_ne nt]; exact c.2.2.2
    · have ej : j = kas.length := by
        have := (List.getElem?_eq_some_iff.mp e1').1
        simp at this
        omega
      subst ej
      rw [List.getElem?_append_right (Nat.le_refl _)] at e1'
      rw [h.len, List.getElem?_append_right (Nat.le_refl _)] at e2'
      simp only [Nat.sub_self] at e1' e2'
      cases e1'
      cases e2'
      refine ⟨upd_same, ⟨xs, by rw [upd_ne n2]; exact e1, RA.mono le _ _ r1⟩, R.mono le _ _ r2, by rw [upd_ne (Ne.symm ts)]; exact fs⟩
  · rw [List.map_append, List.nodup_append]
    refine ⟨h.nd, by simp, ?_⟩
    intro x hx y hy e
    obtain ⟨a, ha, rfl⟩ := List.mem_map.mp hx
    have hy' : y = st := by simpa using hy
    exact n4 a ha (e.trans hy')
  · intro a ha
    rcases List.mem_append.mp ha with ha | ha
    · exact h.fr a ha
    · rw [List.mem_singleton.mp ha]
      exact ⟨hst, n1, n2, n3⟩
end Pz
namespace Pz
open PySem L2
open PyProof.Rows (envOfC)
theorem zeros_flat (cols : List Str) (n : Int) (h : n = cols.length) : (List.replicate n.toNat [V.int 0]).flatten = (zeros cols).map V.int := by
  have e : n.toNat = cols.length := by omega
  rw [e]
  unfold zeros
  rw [List.map_replicate]
  generalize cols.length = n
  induction n with
  | zero => rfl
  | succ n ih => rw [List.replicate_succ, List.flatten_cons, ih, List.replicate_succ]; rfl
theorem nm0 : Nm 0 := ⟨by decide, by decide⟩
theorem zeros_good (cols : List Str) : GoodRow cols (zeros cols) := by
  unfold zeros
  refine ⟨List.length_replicate, fun x hx => ?_⟩
  rw [(List.mem_replicate.mp hx).2]; exact nm0
/-- the bounds: columns, kinds, states, steps, checks -/
structure Most (m0 m1 m2 m3 m4 : Int) : Prop where
  a : 0 ≤ m0 ∧ m0 ≤ 12
  b : 0 ≤ m1 ∧ m1 ≤ 8
  c : 1 ≤ m2 ∧ m2 ≤ 30
  d : 0 ≤ m3 ∧ m3 ≤ 30
  e : 0 ≤ m4 ∧ m4 ≤ 8
structure GoodD (cols : List Str) (kds : List KD) (chk : List (List Int)) : Prop where
  c : GoodC cols
  k : ∀ k ∈ kds, GoodL cols k
  nd : (kds.map (·.name)).Nodup
  len : kds.length ≤ 8
  h : ∀ row ∈ chk, GoodRow cols row
  hlen : chk.length ≤ 8
/-- as the law draws it -/
def Tight (kds : List KD) : Prop := ∀ k ∈ kds, k.rows.length ≤ 32 ∧ k.steps.length ≤ 30
/-- the data: what stands frozen, and in the heap alone the lists of states and of checks -/
structure LD (H F F' H' : Hp) (w t0 : Addr) (cols : List Str) (kds : List KD) (chk : List (List Int)) (c ks ch : Addr) (kas : List KB) : Prop where
  gr : Gr F H F' H'
  top : F' t0 = some (.tup [.ref c, .ref ks, .ref ch])
  c_ : F' c = some (.lst (cols.map V.str))
  k_ : F' ks = some (.lst (kas.map fun a => V.ref a.1))
  len : kas.length = kds.length
  ct : ∀ (j : Nat) a k, kas[j]? = some a → kds[j]? = some k → LKAt F' H' k a
  ch_ : ∃ xs, H' ch = some (.lst xs) ∧ RA F' (chk.map dInts) xs
  fch : F' ch = none
  nd : (ch :: kas.map fun a => a.2.1).Nodup
  fr : ∀ a ∈ ch :: kas.map (fun a => a.2.1), H a = none ∧ a ≠ w
def spData : Sp := fun vs H Q _ => ∃ (w mt : Addr) (m0 m1 m2 m3 m4 far : Int) (N : Nat) (F : Hp), vs = [.ref w, .ref mt, .int far] ∧ H mt = some (.tup [.int m0, .int m1, .int m2, .int m3, .int m4]) ∧ Wl H w N ∧ N ≤ 100000 ∧ Same F H ∧ F w = none ∧
  Most m0 m1 m2 m3 m4 ∧ 0 ≤ far ∧ far ≤ 10 ^ 13 ∧
  ∀ (t0 c ks ch : Addr) (cols : List Str) (kds : List KD) (chk : List (List Int)) (kas : List KB) (H' F' : Hp), GoodD cols kds chk → ((chk.length : Int) ≤ m4 ∧ Tight kds) → Sm w H H' → Wl H' w (N + 30000) → LD H F F' H' w t0 cols kds chk c ks ch kas → Q (.ref t0) H'
section
variable {P : Program} {w : World} {K : PySem.W.Frag} {mg : Str → Option Value} {base : Heap}
theorem ok_law_data (T : Txt K mg) : Fn P w K mg base 4 "_law_data" ["well", "most", "far"] spData := by
  have G_law_draw := ok_law_draw (P := P) (w := w) (base := base) T
  have G_law_word := ok_law_word (P := P) (w := w) (base := base) T
  have G_law_counts := ok_law_counts (P := P) (w := w) (base := base) T
  have G_law_steps := ok_law_steps (P := P) (w := w) (base := base) T
  refine T.d_law_data.fn sc_law_data (fun vs H Q E h => ?_) (fun cdv A outer f s H vs Q E hr h => ?_)
  · obtain ⟨_, _, _, _, _, _, _, _, _, _, rfl, _⟩ := h; rfl
  · obtain ⟨w, mt, m0, m1, m2, m3, m4, far, N, F, rfl, hmt, hw, hN, sF, fw0, mo, f0, f1, q⟩ := h
    have nmw : mt ≠ w := fun z => by obtain ⟨a, b, c, e, _⟩ := hw; rw [← z, hmt] at e; cases e
    refine ⟨_, (pss_cons (ps_set (i := 3) sc_law_data.nd rfl (Or.inl rfl) (pe_lst pa_nil)) (pss_cons (ps_for PassesOwn.never rfl (pi_range1 rfl T.z_range (pa_cons (pe_ix ix_list (pe_lst (pa_cons (pe_ix ix_tup (pv 1) pe_int (fun _ _ => rfl)) (pa_cons pe_int (pa_cons pe_int (pa_cons pe_int (pa_cons pe_int (pa_cons pe_int (pa_cons pe_int (pa_cons pe_int pa_nil))))))))) (pe_fn G_law_draw (hr.mono (by decide)) (by rfl) (pa_cons (pv 0) (pa_cons pe_int pa_nil))) (fun _ _ => rfl)) pa_nil)) (pg_name (i := 4) sc_law_data.nd rfl (Or.inl rfl)) (pss_one (ps_expr (pe_bm PySem.F.plainAttrs_list PySem.F.slot_list_append PySem.F.type_list_append mt_append (pv 3) (pa_cons (pe_fn G_law_word (hr.mono (by decide)) (by rfl) (pa_cons (pv 0) (pa_cons (pv 3) pa_nil))) pa_nil))))) (pss_cons (ps_set (i := 5) sc_law_data.nd rfl (Or.inl rfl) (pe_lst pa_nil)) (pss_cons (ps_set (i := 6) sc_law_data.nd rfl (Or.inl rfl) (pe_lst pa_nil)) (pss_cons (ps_set (i := 7) sc_law_data.nd rfl (Or.inl rfl) (pe_ix ix_list (pe_lst (pa_cons (pe_ix ix_tup (pv 1) pe_int (fun _ _ => rfl)) (pa_cons pe_int (pa_cons pe_int (pa_cons pe_int (pa_cons pe_int (pa_cons pe_int pa_nil))))))) (pe_fn G_law_draw (hr.mono (by decide)) (by rfl) (pa_cons (pv 0) (pa_cons pe_int pa_nil))) (fun _ _ => rfl))) (pss_cons (ps_for PassesOwn.never rfl (pi_range1 rfl T.z_range (pa_cons (pv 7) pa_nil)) (pg_name (i := 4) sc_law_data.nd rfl (Or.inl rfl)) (pss_cons (ps_expr (pe_bm PySem.F.plainAttrs_list PySem.F.slot_list_append PySem.F.type_list_append mt_append (pv 6) (pa_cons (pe_fn G_law_word (hr.mono (by decide)) (by rfl) (pa_cons (pv 0) (pa_cons (pv 6) pa_nil))) pa_nil))) (pss_cons (ps_set (i := 8) sc_law_data.nd rfl (Or.inl rfl) (pe_lst (pa_cons (pe_op op_rep (pe_lst (pa_cons pe_int pa_nil)) (pe_callB call_len_seq (by rfl) T.z_len (by decide +kernel) (pa_cons (pv 3) pa_nil))) pa_nil))) (pss_cons (ps_for PassesOwn.never rfl (pi_range1 rfl T.z_range (pa_cons (pe_fn G_law_draw (hr.mono (by decide)) (by rfl) (pa_cons (pv 0) (pa_cons (pe_cut (pe_ifExp (pt_cmpR op_eq (pv 7) pe_int (nomark _)) pe_int (pe_ix ix_tup (pv 1) pe_int (fun _ _ => rfl)))) pa_nil))) pa_nil)) (pg_name (i := 9) sc_law_data.nd rfl (Or.inl rfl)) (pss_one (ps_expr (pe_bm PySem.F.plainAttrs_list PySem.F.slot_list_append PySem.F.type_list_append mt_append (pv 8) (pa_cons (pe_fn G_law_counts (hr.mono (by decide)) (by rfl) (pa_cons (pv 0) (pa_cons (pe_callB call_len_seq (by rfl) T.z_len (by decide +kernel) (pa_cons (pv 3) pa_nil)) (pa_cons (pv 2) pa_nil)))) pa_nil))))) (pss_cons (ps_set (i := 10) sc_law_data.nd rfl (Or.inl rfl) (pe_fn G_law_steps (hr.mono (by decide)) (by rfl) (pa_cons (pv 0) (pa_cons (pe_callB call_len_seq (by rfl) T.z_len (by decide +kernel) (pa_cons (pv 8) pa_nil)) (pa_cons (pe_callTy call_list_of (by rfl) T.z_list (by decide +kernel) (pa_cons (pv 6) pa_nil)) (pa_cons (pe_cut (pe_ifExp (pt_cmpR op_eq (pv 7) pe_int (nomark _)) pe_int (pe_ix ix_tup (pv 1) pe_int (fun _ _ => rfl)))) pa_nil)))))) (pss_one (ps_expr (pe_bm PySem.F.plainAttrs_list PySem.F.slot_list_append PySem.F.type_list_append mt_append (pv 5) (pa_cons (pe_tup (pa_cons (pe_ix ix_list (pv 6) (pe_un un_neg pe_int) (fun _ _ => rfl)) (pa_cons (pv 8) (pa_cons (pv 10) pa_nil)))) pa_nil))))))))) (pss_cons (ps_set (i := 11) sc_law_data.nd rfl (Or.inl rfl) (pe_lst pa_nil)) (pss_cons (ps_for PassesOwn.never rfl (pi_range1 rfl T.z_range (pa_cons (pe_fn G_law_draw (hr.mono (by decide)) (by rfl) (pa_cons (pv 0) (pa_cons (pe_op op_add (pe_ix ix_tup (pv 1) pe_int (fun _ _ => rfl)) pe_int) pa_nil))) pa_nil)) (pg_name (i := 4) sc_law_data.nd rfl (Or.inl rfl)) (pss_one (ps_expr (pe_bm PySem.F.plainAttrs_list PySem.F.slot_list_append PySem.F.type_list_append mt_append (pv 11) (pa_cons (pe_fn G_law_counts (hr.mono (by decide)) (by rfl) (pa_cons (pv 0) (pa_cons (pe_callB call_len_seq (by rfl) T.z_len (by decide +kernel) (pa_cons (pv 3) pa_nil)) (pa_cons (pv 2) pa_nil)))) pa_nil))))) (pss_one (ps_ret (pe_tup (pa_cons (pv 3) (pa_cons (pv 5) (pa_cons (pv 11) pa_nil)))))))))))))), ?_⟩
    refine ⟨Nat.zero_le _, fun c hc => ?_⟩
    have ncw : c ≠ w := fun z => hw.ne (z ▸ hc)
    have sm1 : Sm w H (upd H c (.lst [])) := Sm.same (same_upd hc)
    have w1 := hw.new (o := .lst []) hc
    refine ⟨_, rfl, mt, _, _, _, rfl, rfl, SqT.of (sm1 _ _ nmw hmt), rfl, (show 8 ≤ sizeLine by decide), fun p2 hp2 => ?_⟩
    have hc1 : (upd (upd H c (.lst [])) p2 (.lst ([m0, 0, 1, 2, 2, 3, 3, 4].map V.int))) c = some (.lst []) := same_upd hp2 _ _ upd_same
    have sm2 := sm1.trans (Sm.same (same_upd (o := .lst ([m0, 0, 1, 2, 2, 3, 3, 4].map V.int)) hp2))
    have w2 := w1.new (o := .lst ([m0, 0, 1, 2, 2, 3, 3, 4].map V.int)) hp2
    have hp2v : (upd (upd H c (.lst [])) p2 (.lst ([m0, 0, 1, 2, 2, 3, 3, 4].map V.int))) p2 = some (.lst ([m0, 0, 1, 2, 2, 3, 3, 4].map V.int)) := upd_same
    show tCall _ _ _ _ _ (upd (upd H c (.lst [])) p2 (.lst ([m0, 0, 1, 2, 2, 3, 3, 4].map V.int))) _
    generalize upd (upd H c (.lst [])) p2 (.lst ([m0, 0, 1, 2, 2, 3, 3, 4].map V.int)) = H2 at *
    have np2w : p2 ≠ w := fun z => by obtain ⟨a, b, c, e, _⟩ := w2; rw [← z, hp2v] at e; cases e
    refine ⟨_, rfl, w, _, N, (by rfl), w2, by omega, by decide, by decide, fun r0 H3 r00 r01 s3 w3 => ?_⟩
    obtain ⟨n1, hn1, hat1⟩ := at_ints (xs := [m0, 0, 1, 2, 2, 3, 3, 4]) r00 (by simpa using r01)
    have n1b : 0 ≤ n1 ∧ n1 ≤ 12 := by
      have := mo.a
      simp only [List.mem_cons, List.not_mem_nil, or_false] at hn1
      omega
    refine ⟨p2, _, _, _, rfl, rfl, SqL.of (s3 _ _ np2w hp2v), hat1, _, rfl, by omega, by omega, for_range (lo := 0) (n := n1.toNat) (fun i σ H' => ∃ v4 cols, σ = [some (.ref w), some (.ref mt), some (.int far), some (.ref c), v4, none, none, none, none, none, none, none] ∧ cols.length = i ∧ Sm w H H' ∧ Wl H' w (N + 1 + 20 * i) ∧
      H' c = some (.lst (cols.map V.str)) ∧ cols.Nodup ∧ ∀ x ∈ cols, isNm x = true) ⟨none, [], rfl, rfl, sm2.trans s3, w3, s3 _ _ ncw hc1, List.nodup_nil, (fun x h => nomatch h)⟩ ?_ ?_⟩
    · rintro i σ H' hi ⟨v4, cols, rfl, el, sm, wl, hcl, nd, nm⟩
      refine ⟨_, rfl, .inl ⟨rfl, _, SqL.of hcl⟩, _, rfl, _, rfl, w, c, cols, N + 1 + 20 * i, (by rfl), hcl, wl, by omega, by omega, nm, fun z H4 znm zin s4 w4 => ?_⟩
      refine ⟨_, _, _, rfl, rfl, s4 _ _ ncw hcl, by rw [List.length_map]; exact small1000 (by omega), ?_⟩
      refine ⟨_, cols ++ [z], rfl, by simp [el], Sm.new (sm.trans s4) hc, (w4.put ncw).mono (by omega), by rw [upd_same, List.map_append]; rfl, ?_, ?_⟩
      · rw [List.nodup_append]
        refine ⟨nd, by simp, ?_⟩
        intro x hx y hy e
        rw [List.mem_singleton.mp hy] at e
        exact zin (e ▸ hx)
      · intro x hx
        rcases List.mem_append.mp hx with hx | hx
        · exact nm x hx
        · rw [List.mem_singleton.mp hx]; exact znm
    rintro σ H4 ⟨v4, cols, rfl, el, sm4, w4, hc4, nd, nm⟩
    have goodC : GoodC cols := ⟨nd, by omega, nm⟩
    refine ⟨Nat.zero_le _, fun ks hks => ?_⟩
    refine ⟨Nat.zero_le _, fun nms hnms => ?_⟩
    have w4b : Wl H4 w (N + 300) := w4.mono (by omega)
    have s5 : Same H4 (upd (upd H4 ks (.lst [])) nms (.lst [])) := (same_upd hks).trans (same_upd hnms)
    have nkw : ks ≠ w := fun z => w4b.ne (z ▸ hks)
    have nnw : nms ≠ w := fun z => (w4b.new (o := .lst []) hks).ne (z ▸ hnms)
    have nnk : nms ≠ ks := fun z => by rw [z, upd_same] at hnms; cases hnms
    have hks0 : H ks = none := sm4.free w4b.ne hks
    have hnms0 : H nms = none := sm4.free w4b.ne (same_none (same_upd hks) hnms)
    have nck : c ≠ ks := fun z => by rw [z, hks] at hc4; cases hc4
    have ncn : c ≠ nms := fun z => by have := same_upd (o := .lst []) hks _ _ hc4; rw [z, hnms] at this; cases this
    have fnw : F w = none := fw0
    have g4 : Gr F H (upd F c (.lst (cols.map V.str))) H4 := Gr.one (fun b o e => sm4 b o (fun z => by rw [z, fw0] at e; cases e) (sF b o e)) hc hc4
    have k0 : KI H F w nms ks (N + 300) [] [] [] (upd F c (.lst (cols.map V.str))) (upd (upd H4 ks (.lst [])) nms (.lst [])) := by
      have fa : ∀ b, H b = none → b ≠ c → (upd F c (.lst (cols.map V.str))) b = none := fun b hb hn => by rw [upd_ne hn]; exact same_none sF hb
      refine ⟨sm4.trans (Sm.same s5), w4b.same s5, upd_same, by rw [upd_ne (Ne.symm nnk)]; exact upd_same, ?_, by rw [upd_ne (Ne.symm ncw)]; exact fw0, fa _ hnms0 (Ne.symm ncn), fa _ hks0 (Ne.symm nck), rfl, (fun j a k e => by simp at e), by simp, (fun a h => nomatch h)⟩
      exact (g4.put (fa _ hks0 (Ne.symm nck))).put (fa _ hnms0 (Ne.symm ncn))
    have hcF : (upd F c (.lst (cols.map V.str))) c = some (.lst (cols.map V.str)) := upd_same
    have hmt5 : (upd (upd H4 ks (.lst [])) nms (.lst [])) mt = some (.tup [.int m0, .int m1, .int m2, .int m3, .int m4]) := s5 _ _ (sm4 _ _ nmw hmt)
    show Ends.nx _ _ (upd (upd H4 ks (.lst [])) nms (.lst []))
    generalize upd (upd H4 ks (.lst [])) nms (.lst []) = H5 at *
    generalize upd F c (.lst (cols.map V.str)) = F5 at *
    refine ⟨_, rfl, mt, _, _, _, rfl, rfl, SqT.of hmt5, rfl, (show 6 ≤ sizeLine by decide), fun p5 hp5 => ?_⟩
    have k1 := k0.same nnw nkw (same_upd (o := .lst ([m1, 0, 1, 2, 2, 3].map V.int)) hp5)
    have hp5w : p5 ≠ w := fun z => k0.wl.ne (z ▸ hp5)
    refine ⟨_, rfl, w, _, N + 300, (by rfl), k1.wl, by omega, by decide, by decide, fun r1 H6 r10 r11 s6 w6 => ?_⟩
    have k2 := k1.draw nnw nkw s6 w6
    obtain ⟨sz, hsz, hat2⟩ := at_ints (xs := [m1, 0, 1, 2, 2, 3]) r10 (by simpa using r11)
    have szb : 0 ≤ sz ∧ sz ≤ 8 := by
      have := mo.b
      simp only [List.mem_cons, List.not_mem_nil, or_false] at hsz
      omega
    refine ⟨p5, _, _, _, rfl, rfl, SqL.of (s6 _ _ hp5w upd_same), hat2, ?_⟩
    have hmt6 : H6 mt = some (.tup [.int m0, .int m1, .int m2, .int m3, .int m4]) := s6 _ _ nmw (same_upd hp5 _ _ hmt5)
    refine ⟨_, rfl, _, rfl, by omega, by omega, for_range (lo := 0) (n := sz.toNat) (fun i σ H' => ∃ v4 v8 v9 v10 kds kas F', σ = [some (.ref w), some (.ref mt), some (.int far), some (.ref c), v4, some (.ref ks), some (.ref nms), some (.int sz), v8, v9, v10, none] ∧ kds.length = i ∧
      KI H F w nms ks (N + 301 + 3000 * i) (kds.map (·.name)) kds kas F' H' ∧ F' c = some (.lst (cols.map V.str)) ∧ (∀ k ∈ kds, GoodL cols k ∧ k.rows.length ≤ 32 ∧ k.steps.length ≤ 30) ∧ (kds.map (·.name)).Nodup)
      ⟨v4, none, none, none, [], [], F5, rfl, rfl, k2, hcF, (fun k h => nomatch h), by simp⟩ ?_ ?_⟩
    · rintro i σ H' hi ⟨v4, v8, v9, v10, kds, kas, F', rfl, kl, ki, hcF', gk, knd⟩
      have hmt' : H' mt = some (.tup [.int m0, .int m1, .int m2, .int m3, .int m4]) := ki.sm _ _ nmw hmt
      have nms8 : ∀ x ∈ kds.map (·.name), isNm x = true := fun x hx => by obtain ⟨k, hk, rfl⟩ := List.mem_map.mp hx; exact (gk k hk).1.nm
      refine ⟨_, rfl, .inl ⟨rfl, _, SqL.of ki.nms_⟩, _, rfl, _, rfl, w, nms, _, N + 301 + 3000 * i, (by rfl), ki.nms_, ki.wl, by omega, by rw [List.length_map]; omega, nms8, fun z H7 znm zin s7 w7 => ?_⟩
      have ki7 := ki.draw nnw nkw s7 w7
      refine ⟨_, _, _, rfl, rfl, ki7.nms_, by rw [List.length_map, List.length_map]; exact small1000 (by omega), ?_⟩
      have ki8 : KI H F w nms ks (N + 301 + 3000 * i + 20) ((kds.map (·.name)) ++ [z]) kds kas F' (upd H7 nms (.lst ((kds.map (·.name)).map V.str ++ [.str z]))) := by
        have := ki7.names (nml' := (kds.map (·.name)) ++ [z]) hnms0 nnw nnk
        rw [List.map_append] at this
        exact this
      show Ends.nx _ _ (upd H7 nms (.lst ((kds.map (·.name)).map V.str ++ [.str z])))
      generalize upd H7 nms (.lst ((kds.map (·.name)).map V.str ++ [.str z])) = H8 at *
      refine ⟨(show 1 ≤ sizeLine by decide), fun p6 hp6 => ?_⟩
      have ki9 := ki8.same nnw nkw (same_upd (o := .lst [V.int 0]) hp6)
      refine ⟨_, rfl, c, _, rfl, .inl (SqL.of (ki9.gr.sub _ _ hcF')), p6, _, [V.int 0], rfl, rfl, upd_same, by rw [List.length_map]; omega, by rw [List.length_map]; omega, ?_, fun p7 hp7 => ?_⟩
      · rw [List.length_map]
        show 1 * ((cols.length : Int).toNat) ≤ sizeLine
        exact Nat.le_trans (show 1 * ((cols.length : Int).toNat) ≤ 20 by omega) (by decide)
      rw [zeros_flat cols _ (by rw [List.length_map])]
      have hp7v : (upd (upd H8 p6 (.lst [V.int 0])) p7 (.lst ((zeros cols).map V.int))) p7 = some (.lst ((zeros cols).map V.int)) := upd_same
      have kiA := ki9.step nnw nkw (Sm.same (same_upd (o := .lst ((zeros cols).map V.int)) hp7)) (ki9.wl.new hp7) (Gr.one (ki9.gr.sub.trans (same_upd hp7)) hp7 hp7v)
      have hcA : (upd F' p7 (.lst ((zeros cols).map V.int))) c = some (.lst (cols.map V.str)) := by
        rw [upd_ne (fun z => by have := ki9.gr.sub _ _ hcF'; rw [z, hp7] at this; cases this)]; exact hcF'
      have hzA : R (upd F' p7 (.lst ((zeros cols).map V.int))) (dInts (zeros cols)) (.ref p7) := R_dInts.mpr ⟨p7, rfl, upd_same⟩
      refine ⟨(show 1 ≤ sizeLine by decide), fun st hst => ?_⟩
      generalize upd (upd H8 p6 (.lst [V.int 0])) p7 (.lst ((zeros cols).map V.int)) = HA at *
      generalize upd F' p7 (.lst ((zeros cols).map V.int)) = FA at *
      have hst0 : H st = none := kiA.sm.free kiA.wl.ne hst
      have fst0 : FA st = none := same_none kiA.gr.sub hst
      have nsw : st ≠ w := fun z => kiA.wl.ne (z ▸ hst)
      have nsn : st ≠ nms := fun z => by have := kiA.nms_; rw [← z, hst] at this; cases this
      have nsk : st ≠ ks := fun z => by have := kiA.ks_; rw [← z, hst] at this; cases this
      have nsa : ∀ a ∈ kas, a.2.1 ≠ st := fun a ha z => by
        obtain ⟨j, hj, ej⟩ := List.mem_iff_getElem.mp ha
        have e1 : kas[j]? = some a := by rw [List.getElem?_eq_getElem hj, ej]
        have hjk : j < kds.length := by rw [← kiA.len]; exact hj
        obtain ⟨ys, hy, _⟩ := (kiA.ct j a _ e1 (List.getElem?_eq_getElem hjk)).2.1
        rw [z, hst] at hy; cases hy
      have kiB := kiA.same nnw nkw (same_upd (o := .lst [.ref p7]) hst)
      have hstB : (upd HA st (.lst [.ref p7])) st = some (.lst [.ref p7]) := upd_same
      refine ⟨_, rfl, ?_⟩
      refine ⟨fun v H' => ∃ b : Int, v = .int b ∧ 1 ≤ b ∧ b ≤ 30 ∧ H' = upd HA st (.lst [.ref p7]), ?_, ?_⟩
      · refine ⟨_, rfl, rfl, _, rfl, ?_⟩
        refine ite2 (fun c => ?_) (fun c => ?_)
        · exact ⟨_, rfl, by decide, by decide, rfl⟩
        · have hm := kiB.sm _ _ nmw hmt
          exact ⟨_, rfl, mt, _, _, _, rfl, rfl, SqT.of hm, rfl, m2, rfl, mo.c.1, Int.le_trans mo.c.2 (by decide), rfl⟩
      rintro v Hx ⟨b, rfl, b1, b30, rfl⟩
      refine ⟨w, _, N + 301 + 3000 * i + 20, (by rfl), kiB.wl, by omega, by omega, by omega, fun r2 HC r20 r21 sC wC => ?_⟩
      have kiC := kiB.draw nnw nkw sC wC
      refine ⟨_, rfl, by omega, by omega, for_range (lo := 0) (n := r2.toNat) (fun i2 σ H' => ∃ v9 rows xs F2, σ = [some (.ref w), some (.ref mt), some (.int far), some (.ref c), some (.int (0 + (i : Int))), some (.ref ks), some (.ref nms), some (.int sz), some (.ref st), v9, v10, none] ∧ rows.length = i2 + 1 ∧
        KI H F w nms ks (N + 301 + 3000 * i + 21 + 40 * i2) ((kds.map (·.name)) ++ [z]) kds kas F2 H' ∧ F2 c = some (.lst (cols.map V.str)) ∧ H' st = some (.lst xs) ∧ F2 st = none ∧ RA F2 (rows.map dInts) xs ∧ (∀ row ∈ rows, GoodRow cols row) ∧ rows[0]? = some (zeros cols))
        ⟨v9, [zeros cols], [.ref p7], FA, rfl, rfl, kiC, hcA, sC _ _ nsw hstB, fst0, (by simp only [List.map_cons, List.map_nil, RA]; exact ⟨_, _, rfl, hzA, rfl⟩), (fun row h => by rw [List.mem_singleton.mp h]; exact zeros_good cols), rfl⟩ ?_ ?_⟩
      · rintro i2 σ H9 hi2 ⟨v9, rows, xs, F2, rfl, rl, ki2, hc2, hst2, f2, ra2, gr2, z2⟩
        have hi30 : i2 < 30 := by omega
        refine ⟨_, rfl, .inl ⟨rfl, _, SqL.of hst2⟩, _, rfl, _, rfl, c, _, rfl, .inl (SqL.of (ki2.gr.sub _ _ hc2)), _, rfl, w, cols.length, far, N + 301 + 3000 * i + 21 + 40 * i2, (by rw [List.length_map]; rfl), ki2.wl, by omega, by omega, f0, f1, fun pr ns HD hpr cl1 cn1 sD wD hD => ?_⟩
        have gD : Gr F2 H9 (upd F2 pr (.lst (ns.map V.int))) HD := Gr.one (fun b o e => sD b o (fun z => by rw [z, ki2.fw] at e; cases e) (ki2.gr.sub b o e)) hpr hD
        have kiD := ki2.step nnw nkw sD wD gD
        have hstD := sD _ _ nsw hst2
        refine ⟨_, _, _, rfl, rfl, hstD, small1000 (by have := RA.len ra2; rw [List.length_map] at this; omega), ?_⟩
        have fD := gD.out f2 (some_ne hst2)
        refine ⟨_, rows ++ [ns], xs ++ [.ref pr], _, rfl, by simp [rl], (kiD.put hst0 fD nsw nsn nsk nsa).mono (by have := goodC.len; omega), gD.le _ _ hc2, upd_same, fD, ?_, ?_, ?_⟩
        · rw [List.map_append]
          refine RA.append (RA.mono gD.le _ _ ra2) ?_
          show RA _ [dInts ns] _
          simp only [RA]
          exact ⟨_, [], rfl, R_dInts.mpr ⟨pr, rfl, upd_same⟩, rfl⟩
        · intro row hrow
          rcases List.mem_append.mp hrow with h | h
          · exact gr2 row h
          · rw [List.mem_singleton.mp h]; exact ⟨cl1, cn1⟩
        · rw [List.getElem?_append_left (by omega)]; exact z2
      rintro σ HE ⟨v9, rows, xs, F2, rfl, rl, ki2, hc2, hst2, f2, ra2, gr2, z2⟩
      have rl32 : rows.length ≤ 32 := by omega
      have xsl : xs.length = rows.length := by have := RA.len ra2; rwa [List.length_map] at this
      refine ⟨_, rfl, _, rfl, st, _, rfl, .inl (SqL.of hst2), _, rfl, nms, _, rfl, .inl (SqL.of ki2.nms_), fun p9 hp9 => ?_⟩
      have kiF := ki2.same nnw nkw (same_upd (o := .lst (((kds.map (·.name)) ++ [z]).map V.str)) hp9)
      have hp9v : (upd HE p9 (.lst (((kds.map (·.name)) ++ [z]).map V.str))) p9 = some (.lst (((kds.map (·.name)) ++ [z]).map V.str)) := upd_same
      have hstF := same_upd (o := .lst (((kds.map (·.name)) ++ [z]).map V.str)) hp9 _ _ hst2
      refine ⟨fun v H' => ∃ b : Nat, v = .int b ∧ b ≤ 30 ∧ H' = upd HE p9 (.lst (((kds.map (·.name)) ++ [z]).map V.str)), ?_, ?_⟩
      · refine ⟨_, rfl, rfl, _, rfl, ?_⟩
        refine ite2 (fun c => ?_) (fun c => ?_)
        · exact ⟨30, rfl, by decide, rfl⟩
        · have hm := kiF.sm _ _ nmw hmt
          exact ⟨_, rfl, mt, _, _, _, rfl, rfl, SqT.of hm, rfl, m3.toNat, by rw [show ((m3.toNat : Nat) : Int) = m3 by have := mo.d; omega], by have := mo.d; omega, rfl⟩
      rintro v Hx ⟨b, rfl, b30, rfl⟩
      refine ⟨w, p9, (xs.length : Int), b, _, N + 301 + 3000 * i + 21 + 40 * r2.toNat, F2, (by rfl), hp9v, kiF.wl, by omega, kiF.gr.sub, ki2.fw, by omega, by omega, b30, by simp, by simp; omega, ?_, fun sp sts HG FG hsp gst stl sG wG gG hR => ?_⟩
      · intro x hx
        rcases List.mem_append.mp hx with h | h
        · exact nms8 x h
        · rw [List.mem_singleton.mp h]; exact znm
      have kiG := kiF.step nnw nkw sG wG gG
      have hstG := sG _ _ nsw hstF
      have fG := gG.out f2 (some_ne hstF)
      refine ⟨_, rfl, .inl ⟨rfl, _, SqL.of kiG.ks_⟩, _, rfl, _, rfl, nms, _, _, .str z, rfl, rfl, SqL.of kiG.nms_, (by rw [List.map_append]; exact atI_last _ _), _, rfl, _, rfl, (show 3 ≤ sizeLine by decide), fun t ht => ?_⟩
      have kiH := kiG.same nnw nkw (same_upd (o := .tup [.str z, .ref st, .ref sp]) ht)
      have hstH := same_upd (o := .tup [.str z, .ref st, .ref sp]) ht _ _ hstG
      have kasl : kas.length = i := by rw [ki.len]; exact kl
      refine ⟨_, _, _, rfl, rfl, kiH.ks_, by rw [List.length_map]; exact small1000 (by omega), ?_⟩
      have kiI := kiH.kind (k := ⟨z, rows, [], sts⟩) (t := t) (st := st) (sp := sp) hks0 nkw nnk (kiG.sm.free kiG.wl.ne ht) upd_same hst0 nsn nsk nsw nsa hstH fG (RA.mono gG.le _ _ ra2) hR
      refine ⟨_, _, _, _, kds ++ [⟨z, rows, [], sts⟩], kas ++ [(t, st, sp)], upd FG t (.tup [.str z, .ref st, .ref sp]), rfl, by simp [kl], ?_, ?_, ?_, ?_⟩
      · have := kiI.mono (M := N + 301 + 3000 * (i + 1)) (by omega)
        rw [List.map_append]
        exact this
      · rw [upd_ne (fun z => by have := kiG.gr.sub _ _ (gG.le _ _ hc2); rw [z, ht] at this; cases this)]
        exact gG.le _ _ hc2
      · intro k hk
        rcases List.mem_append.mp hk with h | h
        · exact gk k h
        · rw [List.mem_singleton.mp h]
          exact ⟨⟨znm, by show 0 < rows.length; omega, Nat.le_trans rl32 (by decide), gr2, z2, by rw [← xsl]; exact gst, Nat.le_trans (Nat.le_trans stl b30) (by decide)⟩, rl32, Nat.le_trans stl b30⟩
      · rw [List.map_append, List.nodup_append]
        refine ⟨knd, by simp, ?_⟩
        intro x hx y hy e
        have hy' : y = z := by simpa using hy
        rw [e, hy'] at hx
        exact zin hx
    rintro σ H7 ⟨v4, v8, v9, v10, kds, kas, F', rfl, kl, ki, hcF', gk, knd⟩
    refine ⟨Nat.zero_le _, fun ch hch => ?_⟩
    have hch0 : H ch = none := ki.sm.free ki.wl.ne hch
    have fch0 : F' ch = none := same_none ki.gr.sub hch
    have nhw : ch ≠ w := fun z => ki.wl.ne (z ▸ hch)
    have nhn : ch ≠ nms := fun z => by have := ki.nms_; rw [← z, hch] at this; cases this
    have nhk : ch ≠ ks := fun z => by have := ki.ks_; rw [← z, hch] at this; cases this
    have nha : ∀ a ∈ kas, a.2.1 ≠ ch := fun a ha z => by
      obtain ⟨j, hj, ej⟩ := List.mem_iff_getElem.mp ha
      have e1 : kas[j]? = some a := by rw [List.getElem?_eq_getElem hj, ej]
      have hjk : j < kds.length := by rw [← ki.len]; exact hj
      obtain ⟨ys, hy, _⟩ := (ki.ct j a _ e1 (List.getElem?_eq_getElem hjk)).2.1
      rw [z, hch] at hy; cases hy
    have kiB := ki.same nnw nkw (same_upd (o := .lst []) hch)
    have hmB := kiB.sm _ _ nmw hmt
    have m4b := mo.e
    refine ⟨_, rfl, _, rfl, mt, _, _, _, rfl, rfl, SqT.of hmB, rfl, _, _, rfl, rfl, w, _, N + 301 + 3000 * sz.toNat, (by rfl), kiB.wl, by omega, by omega, by omega, fun r3 HC r30 r31 sC wC => ?_⟩
    have kiC := kiB.draw nnw nkw sC wC
    refine ⟨_, rfl, by omega, by omega, for_range (lo := 0) (n := r3.toNat) (fun i2 σ H' => ∃ v4 rows xs F2, σ = [some (.ref w), some (.ref mt), some (.int far), some (.ref c), v4, some (.ref ks), some (.ref nms), some (.int sz), v8, v9, v10, some (.ref ch)] ∧ rows.length = i2 ∧
      KI H F w nms ks (N + 301 + 3000 * sz.toNat + 1 + 40 * i2) (kds.map (·.name)) kds kas F2 H' ∧ F2 c = some (.lst (cols.map V.str)) ∧ H' ch = some (.lst xs) ∧ F2 ch = none ∧ RA F2 (rows.map dInts) xs ∧ ∀ row ∈ rows, GoodRow cols row)
      ⟨v4, [], [], F', rfl, rfl, kiC, hcF', sC _ _ nhw upd_same, fch0, by simp [RA], (fun row h => nomatch h)⟩ ?_ ?_⟩
    · rintro i2 σ H9 hi2 ⟨v4, rows, xs, F2, rfl, rl, ki2, hc2, hst2, f2, ra2, gr2⟩
      have hi30 : i2 < 30 := by omega
      refine ⟨_, rfl, .inl ⟨rfl, _, SqL.of hst2⟩, _, rfl, _, rfl, c, _, rfl, .inl (SqL.of (ki2.gr.sub _ _ hc2)), _, rfl, w, cols.length, far, N + 301 + 3000 * sz.toNat + 1 + 40 * i2, (by rw [List.length_map]; rfl), ki2.wl, by omega, by omega, f0, f1, fun pr ns HD hpr cl1 cn1 sD wD hD => ?_⟩
      have gD : Gr F2 H9 (upd F2 pr (.lst (ns.map V.int))) HD := Gr.one (fun b o e => sD b o (fun z => by rw [z, ki2.fw] at e; cases e) (ki2.gr.sub b o e)) hpr hD
      have kiD := ki2.step nnw nkw sD wD gD
      have hstD := sD _ _ nhw hst2
      refine ⟨_, _, _, rfl, rfl, hstD, small1000 (by have := RA.len ra2; rw [List.length_map] at this; omega), ?_⟩
      have fD := gD.out f2 (some_ne hst2)
      refine ⟨_, rows ++ [ns], xs ++ [.ref pr], _, rfl, by simp [rl], (kiD.put hch0 fD nhw nhn nhk nha).mono (by have := goodC.len; omega), gD.le _ _ hc2, upd_same, fD, ?_, ?_⟩
      · rw [List.map_append]
        refine RA.append (RA.mono gD.le _ _ ra2) ?_
        show RA _ [dInts ns] _
        simp only [RA]
        exact ⟨_, [], rfl, R_dInts.mpr ⟨pr, rfl, upd_same⟩, rfl⟩
      · intro row hrow
        rcases List.mem_append.mp hrow with h | h
        · exact gr2 row h
        · rw [List.mem_singleton.mp h]; exact ⟨cl1, cn1⟩
    rintro σ HE ⟨v4, rows, xs, F2, rfl, rl, ki2, hc2, hch2, f2, ra2, gr2⟩
    refine ⟨_, rfl, _, rfl, _, rfl, (show 3 ≤ sizeLine by decide), fun t0 ht0 => ?_⟩
    have kiF := ki2.same nnw nkw (same_upd (o := .tup [.ref c, .ref ks, .ref ch]) ht0)
    have ht00 : H t0 = none := ki2.sm.free ki2.wl.ne ht0
    have nt0 : ∀ b, HE b ≠ none → b ≠ t0 := fun b hb z => hb (z ▸ ht0)
    have ga := (kiF.gr.snoc (D := ks) hks0 kiF.ks_).snoc (D := t0) (o := .tup [.ref c, .ref ks, .ref ch]) ht00 upd_same
    have leF : Same F2 (upd (upd F2 ks (.lst (kas.map fun a => V.ref a.1))) t0 (.tup [.ref c, .ref ks, .ref ch])) := fun b o e => by
      rw [upd_ne (nt0 b (some_ne (ki2.gr.sub _ _ e))), upd_ne (fun z => by rw [z, ki2.fk] at e; cases e)]
      exact e
    refine q t0 c ks ch cols kds rows kas _ _ ⟨goodC, fun k hk => (gk k hk).1, knd, by omega, gr2, by omega⟩ ⟨by omega, fun k hk => (gk k hk).2⟩ kiF.sm (kiF.wl.mono (by omega)) ⟨ga, upd_same, leF _ _ hc2, ?_, kiF.len, ?_, ⟨xs, same_upd ht0 _ _ hch2, RA.mono leF _ _ ra2⟩, ?_, ?_, ?_⟩
    · rw [upd_ne (nt0 ks (some_ne ki2.ks_))]; exact upd_same
    · intro j a k e1 e2
      have cc := kiF.ct j a k e1 e2
      have fa := kiF.fr a (List.mem_of_getElem? e1)
      refine cc.mono leF ?_ fun o e => e
      obtain ⟨ys, hy, _⟩ := (ki2.ct j a k e1 e2).2.1
      rw [upd_ne (nt0 _ (some_ne hy)), upd_ne fa.2.2.1]
      exact cc.2.2.2
    · rw [upd_ne (nt0 ch (some_ne hch2)), upd_ne nhk]; exact f2
    · rw [List.nodup_cons]
      refine ⟨fun h => ?_, kiF.nd⟩
      obtain ⟨a, ha, e⟩ := List.mem_map.mp h
      exact nha a ha e
    · intro a ha
      rcases List.mem_cons.mp ha with rfl | ha
      · exact ⟨hch0, nhw⟩
      · obtain ⟨b, hb, rfl⟩ := List.mem_map.mp ha
        exact ⟨(kiF.fr b hb).1, (kiF.fr b hb).2.2.2⟩
end
end Pz
namespace Pz
open PySem L2
open PyProof.Rows (envOfC)
/-! ### _law_sum -/
theorem look_none {tb : List (Str × Int)} {c : Str} (h : ∀ p ∈ tb, p.1 ≠ c) : look tb c = 0 := by
  have : tb.find? (fun p => decide (p.1 = c)) = none := by
    rw [List.find?_eq_none]
    intro p hp
    simp [h p hp]
  unfold look
  rw [this]; rfl
theorem look_snoc {tb : List (Str × Int)} {c c' : Str} {x : Int} (h : ∀ p ∈ tb, p.1 ≠ c) : look (tb ++ [(c, x)]) c' = if c' = c then x else look tb c' := by
  by_cases e : c' = c
  · subst e
    rw [if_pos rfl]
    unfold look
    rw [List.find?_append]
    have : tb.find? (fun p => decide (p.1 = c')) = none := by
      rw [List.find?_eq_none]
      intro p hp
      simp [h p hp]
    rw [this]
    simp
  · rw [if_neg e]
    unfold look
    rw [List.find?_append]
    cases hq : tb.find? (fun p => decide (p.1 = c')) with
    | some q => rfl
    | none => simp [Ne.symm e]
theorem valV_eSum_none {tb : List (Str × Int)} {c : Str} (h : ∀ p ∈ tb, p.1 ≠ c) : valV (eSum tb) (Sum.inr c) = none := by
  induction tb with
  | nil => rfl
  | cons p r ih =>
    show valV ((Sum.inr p.1, V.int p.2) :: eSum r) (Sum.inr c) = none
    rw [valV_neg (by simpa using h p List.mem_cons_self)]
    exact ih fun q hq => h q (List.mem_cons_of_mem _ hq)
/-- the dict of a sum with these numbers -/
structure SumOf (cols : List Str) (ns : List Int) (tb : List (Str × Int)) : Prop where
  len : tb.length ≤ cols.length
  key : ∀ p ∈ tb, p.1 ∈ cols
  val : cols.map (look tb) = ns
  num : ∀ p ∈ tb, p.2 ∈ ns
def vis (r : Int) (n i j : Nat) : Prop := j < n ∧ (r = 0 → j < i) ∧ (r ≠ 0 → n - i ≤ j)
def spSum : Sp := fun vs H Q _ => ∃ (w c n : Addr) (cols : List Str) (ns : List Int) (N : Nat), vs = [.ref w, .ref c, .ref n] ∧ H c = some (.lst (cols.map V.str)) ∧ H n = some (.lst (ns.map V.int)) ∧ Wl H w N ∧ N ≤ 10000000 ∧ cols.Nodup ∧ cols.length ≤ 20 ∧ ns.length = cols.length ∧ c ≠ w ∧ n ≠ w ∧
  ∀ (p : Addr) (tb : List (Str × Int)) (H' : Hp), H p = none → SumOf cols ns tb → Sm w H H' → Wl H' w (N + 2) → H' p = some (.dK (eSum tb)) → Q (.ref p) H'
section
variable {P : Program} {w : World} {K : PySem.W.Frag} {mg : Str → Option Value} {base : Heap}
theorem ok_law_sum (T : Txt K mg) : Fn P w K mg base 2 "_law_sum" ["well", "columns", "numbers"] spSum := by
  have G_law_draw := ok_law_draw (P := P) (w := w) (base := base) T
  refine T.d_law_sum.fn sc_law_sum (fun vs H Q E h => ?_) (fun cdv A outer f s H vs Q E hr h => ?_)
  · obtain ⟨_, _, _, _, _, _, rfl, _⟩ := h; rfl
  · obtain ⟨w, c, n, cols, ns, N, rfl, hc, hn, hw, hN, nd, cl, nl, ncw, nnw, q⟩ := h
    refine ⟨_, (pss_cons (ps_set (i := 3) sc_law_sum.nd rfl (Or.inl rfl) (pe_fn G_law_draw (hr.mono (by decide)) (by rfl) (pa_cons (pv 0) (pa_cons pe_int pa_nil)))) (pss_cons (ps_set (i := 4) sc_law_sum.nd rfl (Or.inl rfl) (pe_fn G_law_draw (hr.mono (by decide)) (by rfl) (pa_cons (pv 0) (pa_cons pe_int pa_nil)))) (pss_cons (ps_set (i := 5) sc_law_sum.nd rfl (Or.inl rfl) pe_dnewK) (pss_cons (ps_for PassesOwn.never rfl (pi_range1 rfl T.z_range (pa_cons (pe_callB call_len_seq (by rfl) T.z_len (by decide +kernel) (pa_cons (pv 1) pa_nil)) pa_nil)) (pg_name (i := 6) sc_law_sum.nd rfl (Or.inl rfl)) (pss_cons (ps_set (i := 7) sc_law_sum.nd rfl (Or.inl rfl) (pe_ix ix_list (pe_lst (pa_cons (pv 6) (pa_cons (pe_op op_sub (pe_op op_sub (pe_callB call_len_seq (by rfl) T.z_len (by decide +kernel) (pa_cons (pv 1) pa_nil)) pe_int) (pv 6)) pa_nil))) (pv 3) (fun _ _ => rfl))) (pss_one (ps_if (PW.pt (pw_or (pt_cmpR op_ne (pe_ix ix_list (pv 2) (pv 7) (fun _ _ => rfl)) pe_int (nomark _)) (pw_or1 (pt_cmpR op_eq (pv 4) pe_int (nomark _))))) (pss_one (ps_dput (hu_of hr) (pv 5) (pe_ix ix_list (pv 1) (pv 7) (fun _ _ => rfl)) (pe_ix ix_list (pv 2) (pv 7) (fun _ _ => rfl)) rfl)) pss_nil)))) (pss_one (ps_ret (pv 5))))))), ?_⟩
    refine ⟨_, rfl, w, _, N, (by rfl), hw, by omega, by decide, by decide, fun r1 H1 r10 r11 s1 w1 => ?_⟩
    refine ⟨_, rfl, w, _, N + 1, (by rfl), w1, by omega, by decide, by decide, fun r2 H2 r20 r21 s2 w2 d hd => ?_⟩
    have sm := s1.trans s2
    have hd0 : H d = none := sm.free w2.ne hd
    have ndw : d ≠ w := fun z => w2.ne (z ▸ hd)
    have c2 := sm _ _ ncw hc
    have n2 := sm _ _ nnw hn
    have ndc : c ≠ d := fun z => by rw [z, hd] at c2; cases c2
    have ndn : n ≠ d := fun z => by rw [z, hd] at n2; cases n2
    refine ⟨_, rfl, c, _, rfl, .inl (SqL.of (by rw [upd_ne ndc]; exact c2)), _, rfl, by rw [List.length_map]; omega, by rw [List.length_map]; omega, for_range (lo := 0) (n := ((cols.map V.str).length : Int).toNat)
      (fun i σ H' => ∃ v6 v7 tb, σ = [some (.ref w), some (.ref c), some (.ref n), some (.int r1), some (.int r2), some (.ref d), v6, v7] ∧ Sm w H H' ∧ Wl H' w (N + 2) ∧ H' d = some (.dK (eSum tb)) ∧ tb.length ≤ i ∧
        (∀ j cc x, vis r1 cols.length i j → cols[j]? = some cc → ns[j]? = some x → look tb cc = x) ∧ (∀ p ∈ tb, ∃ j, vis r1 cols.length i j ∧ cols[j]? = some p.1 ∧ ns[j]? = some p.2))
      ⟨none, none, [], rfl, Sm.new sm hd0, w2.new hd, upd_same, Nat.le_refl _, (fun j cc x h _ _ => ?_), (fun p h => nomatch h)⟩ ?_ ?_⟩
    · obtain ⟨h1, h2, h3⟩ := h
      by_cases hr0 : r1 = 0
      · exact absurd (h2 hr0) (by omega)
      · exact absurd (h3 hr0) (by omega)
    · rintro i σ H3 hi ⟨v6, v7, tb, rfl, sm3, w3, hd3, tl, va, vb⟩
      have hil : i < cols.length := by rw [List.length_map] at hi; omega
      have c3 := sm3 _ _ ncw hc
      have n3 := sm3 _ _ nnw hn
      obtain ⟨ix, hix, hixl, hnv, hstep⟩ : ∃ ix : Nat, atI ([V.int (0 + (i : Int)), V.int (((cols.map V.str).length : Int) - 1 - (0 + (i : Int)))]) r1 = some (.int ix) ∧ ix < cols.length ∧ ¬ vis r1 cols.length i ix ∧ (∀ j, vis r1 cols.length (i + 1) j → vis r1 cols.length i j ∨ j = ix) := by
        by_cases hr0 : r1 = 0
        · refine ⟨i, ?_, hil, fun h => absurd (h.2.1 hr0) (by omega), fun j h => ?_⟩
          · rw [hr0]
            show some (V.int (0 + (i : Int))) = _
            rw [Int.zero_add]
          · obtain ⟨h1, h2, h3⟩ := h
            have := h2 hr0
            by_cases e : j = i
            · exact .inr e
            · exact .inl ⟨h1, fun _ => by omega, fun z => absurd hr0 z⟩
        · have hr1 : r1 = 1 := by omega
          refine ⟨cols.length - 1 - i, ?_, by omega, fun h => absurd (h.2.2 hr0) (by omega), fun j h => ?_⟩
          · rw [hr1, List.length_map]
            show some (V.int ((cols.length : Int) - 1 - (0 + (i : Int)))) = _
            rw [show (cols.length : Int) - 1 - (0 + (i : Int)) = ((cols.length - 1 - i : Nat) : Int) by omega]
          · obtain ⟨h1, h2, h3⟩ := h
            have := h3 hr0
            by_cases e : j = cols.length - 1 - i
            · exact .inr e
            · exact .inl ⟨h1, fun z => absurd z hr0, fun _ => by omega⟩
      refine ⟨_, rfl, _, rfl, c, _, rfl, .inl (SqL.of c3), _, _, rfl, rfl, _, rfl, _, _, rfl, rfl, (show 2 ≤ sizeLine by decide), fun p hp => ?_⟩
      have s4 := same_upd (o := .lst [V.int (0 + (i : Int)), V.int (((cols.map V.str).length : Int) - 1 - (0 + (i : Int)))]) hp
      refine ⟨_, rfl, p, _, _, _, rfl, rfl, SqL.of upd_same, hix, ?_⟩
      have sm4 := sm3.trans (Sm.same s4)
      have w4 := w3.same s4
      have c4 := s4 _ _ c3
      have n4 := s4 _ _ n3
      have d4 := s4 _ _ hd3
      generalize upd H3 p (.lst [V.int (0 + (i : Int)), V.int (((cols.map V.str).length : Int) - 1 - (0 + (i : Int)))]) = H4 at *
      have eC : cols[ix]? = some cols[ix] := List.getElem?_eq_getElem hixl
      have eN : ns[ix]? = some (ns[ix]'(by omega)) := List.getElem?_eq_getElem (by omega)
      generalize cols[ix] = cc at *
      generalize ns[ix]'(by omega) = x at *
      have atN : atI (ns.map V.int) (ix : Int) = some (.int x) := atI_nat (by rw [List.getElem?_map, eN]; rfl)
      have atC : atI (cols.map V.str) (ix : Int) = some (.str cc) := atI_nat (by rw [List.getElem?_map, eC]; rfl)
      have nokey : ∀ p ∈ tb, p.1 ≠ cc := fun p hp e => by
        obtain ⟨j, hj, ej, _⟩ := vb p hp
        rw [e] at ej
        have := nodup_ix2 nd ej eC
        exact hnv (this ▸ hj)
      have keep : ∀ j, vis r1 cols.length i j → vis r1 cols.length (i + 1) j := fun j ⟨h1, h2, h3⟩ => ⟨h1, fun z => by have := h2 z; omega, fun z => by have := h3 z; omega⟩
      have visix : vis r1 cols.length (i + 1) ix := by
        by_cases hr0 : r1 = 0
        · refine ⟨hixl, fun _ => ?_, fun z => absurd hr0 z⟩
          rw [hr0] at hix
          have e : (0 + (i : Int)) = (ix : Int) := by
            have := Option.some.inj hix
            injection this
          omega
        · have hr1 : r1 = 1 := by omega
          refine ⟨hixl, fun z => absurd z hr0, fun _ => ?_⟩
          rw [hr1, List.length_map] at hix
          have e : ((cols.length : Int) - 1 - (0 + (i : Int))) = (ix : Int) := by
            have := Option.some.inj hix
            injection this
          omega
      have skip : x = 0 → ∃ v6 v7 tb, [some (V.ref w), some (.ref c), some (.ref n), some (.int r1), some (.int r2), some (.ref d), some (.int (0 + (i : Int))), some (.int (ix : Int))] = [some (.ref w), some (.ref c), some (.ref n), some (.int r1), some (.int r2), some (.ref d), v6, v7] ∧ Sm w H H4 ∧ Wl H4 w (N + 2) ∧ H4 d = some (.dK (eSum tb)) ∧ tb.length ≤ i + 1 ∧
          (∀ j cc x, vis r1 cols.length (i + 1) j → cols[j]? = some cc → ns[j]? = some x → look tb cc = x) ∧ (∀ p ∈ tb, ∃ j, vis r1 cols.length (i + 1) j ∧ cols[j]? = some p.1 ∧ ns[j]? = some p.2) := by
        intro hx0
        refine ⟨_, _, tb, rfl, sm4, w4, d4, by omega, ?_, fun p hp => ?_⟩
        · intro j cc' x' hj e1 e2
          rcases hstep j hj with h | h
          · exact va j cc' x' h e1 e2
          · subst h
            rw [eC] at e1
            rw [eN] at e2
            cases e1
            cases e2
            rw [look_none nokey, hx0]
        · obtain ⟨j, hj, e1, e2⟩ := vb p hp
          exact ⟨j, keep j hj, e1, e2⟩
      have putIt : ∃ v6 v7 tb', [some (V.ref w), some (.ref c), some (.ref n), some (.int r1), some (.int r2), some (.ref d), some (.int (0 + (i : Int))), some (.int (ix : Int))] = [some (.ref w), some (.ref c), some (.ref n), some (.int r1), some (.int r2), some (.ref d), v6, v7] ∧ Sm w H (upd H4 d (.dK (putK (eSum tb) (Sum.inr cc) (.int x)))) ∧ Wl (upd H4 d (.dK (putK (eSum tb) (Sum.inr cc) (.int x)))) w (N + 2) ∧
          (upd H4 d (.dK (putK (eSum tb) (Sum.inr cc) (.int x)))) d = some (.dK (eSum tb')) ∧ tb'.length ≤ i + 1 ∧
          (∀ j cc x, vis r1 cols.length (i + 1) j → cols[j]? = some cc → ns[j]? = some x → look tb' cc = x) ∧ (∀ p ∈ tb', ∃ j, vis r1 cols.length (i + 1) j ∧ cols[j]? = some p.1 ∧ ns[j]? = some p.2) := by
        refine ⟨_, _, tb ++ [(cc, x)], rfl, Sm.new sm4 hd0, w4.put ndw, ?_, by simp; omega, ?_, fun p hp => ?_⟩
        · rw [upd_same, putK_new _ (valV_eSum_none nokey)]
          unfold eSum
          rw [List.map_append]
          rfl
        · intro j cc' x' hj e1 e2
          rw [look_snoc nokey]
          rcases hstep j hj with h | h
          · have ne : cc' ≠ cc := fun e => by
              rw [e] at e1
              have := nodup_ix2 nd e1 eC
              exact hnv (this ▸ h)
            rw [if_neg ne]
            exact va j cc' x' h e1 e2
          · subst h
            rw [eC] at e1
            rw [eN] at e2
            cases e1
            cases e2
            rw [if_pos rfl]
        · rcases List.mem_append.mp hp with hp | hp
          · obtain ⟨j, hj, e1, e2⟩ := vb p hp
            exact ⟨j, keep j hj, e1, e2⟩
          · rw [List.mem_singleton.mp hp]
            exact ⟨ix, visix, eC, eN⟩
      refine ⟨_, rfl, _, rfl, n, _, _, _, rfl, rfl, SqL.of n4, atN, rfl, _, rfl, ?_⟩
      refine ite2 (fun hx => ?_) (fun hx => ?_)
      · refine ⟨_, rfl, _, rfl, n, _, _, _, rfl, rfl, SqL.of n4, atN, _, rfl, _, rfl, _, rfl, c, _, _, _, rfl, rfl, SqL.of c4, atC, d, _, rfl, DPut.k (k := Sum.inr cc) d4 ?_, ?_⟩
        · unfold eSum; rw [List.length_map]; exact small1000 (by omega)
        · exact putIt
      · refine ⟨_, rfl, rfl, _, rfl, ?_⟩
        refine ite2 (fun hb => ?_) (fun hb => ?_)
        · refine ⟨_, rfl, _, rfl, n, _, _, _, rfl, rfl, SqL.of n4, atN, _, rfl, _, rfl, _, rfl, c, _, _, _, rfl, rfl, SqL.of c4, atC, d, _, rfl, DPut.k (k := Sum.inr cc) d4 ?_, ?_⟩
          · unfold eSum; rw [List.length_map]; exact small1000 (by omega)
          · exact putIt
        · refine skip ?_
          have : ¬ ((!decide (V.int x = V.int 0)) = true) := hx
          simpa using this
    · rintro σ H3 ⟨v6, v7, tb, rfl, sm3, w3, hd3, tl, va, vb⟩
      have el : ((cols.map V.str).length : Int).toNat = cols.length := by rw [List.length_map]; omega
      rw [el] at tl va vb
      have allv : ∀ j, j < cols.length → vis r1 cols.length cols.length j := fun j hj => ⟨hj, fun _ => hj, fun _ => by omega⟩
      refine ⟨_, rfl, q d tb H3 hd0 ⟨tl, fun p hp => ?_, ?_, fun p hp => ?_⟩ sm3 w3 hd3⟩
      · obtain ⟨j, _, e1, _⟩ := vb p hp
        exact List.mem_of_getElem? e1
      · refine List.ext_getElem? fun j => ?_
        rw [List.getElem?_map]
        by_cases hj : j < cols.length
        · have e1 : cols[j]? = some cols[j] := List.getElem?_eq_getElem hj
          have e2 : ns[j]? = some (ns[j]'(by omega)) := List.getElem?_eq_getElem (by omega)
          rw [e1, e2, Option.map_some, va j _ _ (allv j hj) e1 e2]
        · rw [List.getElem?_eq_none (by omega), List.getElem?_eq_none (by omega)]; rfl
      · obtain ⟨j, _, _, e2⟩ := vb p hp
        exact List.mem_of_getElem? e2
end
end Pz
namespace Pz
open PySem L2
open PyProof.Rows (envOfC)
/-! ### _law_handed -/
section
variable {K : PySem.W.Frag} {w a D : Addr} {xs : List V} {g : TG} {te : TE} {vs : List Nat} {σ : St} {H F0 : Hp} {Qd : Hp → Prop} {N c : Nat}
/-- a comprehension whose items draw -/
theorem lc_dataW (Pd : Nat → PyData → Prop) (hz : xs.length ≤ 1000) (ha : H a = some (.lst xs)) (aw : a ≠ w) (hD : H D = none) (wl : Wl H w N) (sF : Same F0 H) (f0w : F0 w = none)
    (step : ∀ (i : Nat) (x : V) (F' H' : Hp) (Q' : VK), xs[i]? = some x → Sm w H H' → Wl H' w (N + c * i) → Gr F0 H F' H' → H' D ≠ none → F' D = none → F' w = none →
      (∀ y d F4 H4, Pd i d → Sm w H' H4 → Wl H4 w (N + c * i + c) → Gr F' H' F4 H4 → R F4 d y → Q' y H4) → g x (wipe σ vs) H' fun σ2 H2 => wipe σ2 vs = wipe σ vs ∧ te σ2 H2 Q')
    (hd : ∀ ds F' H' ys, ds.length = xs.length → (∀ (i : Nat) d, ds[i]? = some d → Pd i d) → Sm w H H' → Wl H' w (N + c * xs.length) → Gr F0 H F' H' → F' D = none → F' w = none → RA F' ds ys → H' D = some (.lst ys) → Qd H') :
    ∃ W : Nat → Nat → Hp → Prop, (∃ m, W 0 m (upd H D (.lst []))) ∧ ∀ i m H, W i m H →
      ((Itl K a).stop i H ∧ Qd H) ∨ ((Itl K a).go i H ∧ ∃ Nx : Hp → Prop, (∀ H', Nx H' → ∃ m', m' < m ∧ W (i + 1) m' H') ∧ ∀ x H', (Itl K a).yld i H x H' → g x (wipe σ vs) H' fun σ2 H2 => wipe σ2 vs = wipe σ vs ∧ tYes σ2 H2 fun b H3 =>
        if b = true then te σ2 H3 fun y H4 => ∃ acc, H4 D = some (.lst acc) ∧ acc.length < sizeLine ∧ Nx (upd H4 D (.lst (acc ++ [y]))) else Nx H3) := by
  have f0D : F0 D = none := same_none sF hD
  have nDw : D ≠ w := fun z => wl.ne (z ▸ hD)
  refine lc_list (tt := tYes) (fun i H' => ∃ ds F' ys, ds.length = i ∧ (∀ (j : Nat) d, ds[j]? = some d → Pd j d) ∧ Sm w H H' ∧ Wl H' w (N + c * i) ∧ Gr F0 H F' H' ∧ F' D = none ∧ F' w = none ∧ RA F' ds ys ∧ H' D = some (.lst ys))
    ⟨[], F0, [], rfl, (fun j d h => by simp at h), Sm.same (same_upd hD), (wl.new hD).mono (by omega), (Gr.refl sF).put f0D, f0D, f0w, by simp [RA], upd_same⟩ (fun i H' _ ⟨_, _, _, _, _, s1, _⟩ => SqL.of (s1 _ _ aw ha)) ?_ ?_
  · rintro i x H' hx ⟨ds, F', ys, el, hp, s1, w1, gr, fD, fw, ra, hD'⟩
    have hi := (List.getElem?_eq_some_iff.mp hx).1
    have yl := RA.len ra
    have nD : H' D ≠ none := some_ne hD'
    exact step i x F' H' (fun y H4 => ∃ acc, H4 D = some (.lst acc) ∧ acc.length < sizeLine ∧ ∃ ds F' ys, ds.length = i + 1 ∧ (∀ (j : Nat) d, ds[j]? = some d → Pd j d) ∧ Sm w H (upd H4 D (.lst (acc ++ [y]))) ∧ Wl (upd H4 D (.lst (acc ++ [y]))) w (N + c * (i + 1)) ∧ Gr F0 H F' (upd H4 D (.lst (acc ++ [y]))) ∧ F' D = none ∧ F' w = none ∧ RA F' ds ys ∧
        (upd H4 D (.lst (acc ++ [y]))) D = some (.lst ys)) hx s1 w1 gr nD fD fw (by
      rintro y d F4 H4 pd s4 w4 g4 hR
      have f4D := g4.out fD nD
      have f4w := g4.out fw w1.ne
      refine ⟨ys, s4 _ _ nDw hD', small1000 (by omega), ds ++ [d], F4, ys ++ [y], by simp [el], ?_, Sm.new (s1.trans s4) hD, ?_, (gr.trans g4 fun z hz => s1.free w1.ne hz).put f4D, f4D, f4w, RA.snoc (RA.mono g4.le _ _ ra) hR, upd_same⟩
      · intro j d' e
        by_cases hj : j < ds.length
        · rw [List.getElem?_append_left hj] at e; exact hp j d' e
        · have ej : j = i := by
            have := (List.getElem?_eq_some_iff.mp e).1
            simp at this
            omega
          subst ej
          rw [List.getElem?_append_right (by omega)] at e
          have e0 : j - ds.length = 0 := by omega
          rw [e0] at e
          have : d = d' := by simpa using e
          rw [← this]; exact pd
      · have := w4.put (o := .lst (ys ++ [y])) nDw
        rw [Nat.mul_succ, ← Nat.add_assoc]
        exact this)
  · rintro H' ⟨ds, F', ys, el, hp, s1, w1, gr, fD, fw, ra, hD'⟩
    exact hd ds F' H' ys el hp s1 w1 gr fD fw ra hD'
end
/-- a kind as handed out -/
def HKa (G F' : Hp) (k : KD) (a : KB) : Prop := F' a.1 = some (.tup [.str k.name, .ref a.2.1, .ref a.2.2]) ∧ R F' (.list (k.sums.map dSum)) (.ref a.2.1) ∧ ∃ zs, F' a.2.2 = some (.lst zs) ∧ RA G (k.steps.map dStep) zs
theorem HKa.ex {G F' H' : Hp} {k : KD} {a : KB} (h : HKa G F' k a) (s : Same F' H') : H' a.2.1 ≠ none ∧ H' a.2.2 ≠ none := by
  obtain ⟨_, h2, zs, h3, _⟩ := h
  obtain ⟨_, us, eu, hu, _⟩ := R_list.mp h2
  cases eu
  exact ⟨some_ne (s _ _ hu), some_ne (s _ _ h3)⟩
theorem HKa.mono {G F F' : Hp} {k : KD} {a : KB} (h : HKa G F k a) (s : Same F F') : HKa G F' k a := by
  obtain ⟨h1, h2, zs, h3, h4⟩ := h
  exact ⟨s _ _ h1, R.mono s _ _ h2, zs, s _ _ h3, h4⟩
structure WithS (cols : List Str) (k k' : KD) : Prop where
  nm : k'.name = k.name
  rows : k'.rows = k.rows
  steps : k'.steps = k.steps
  len : k'.sums.length = k.rows.length
  val : ∀ (i : Nat) row tb, k.rows[i]? = some row → k'.sums[i]? = some tb → SumOf cols row tb
structure HD (G F' : Hp) (cols : List Str) (kds : List KD) (chs : List (List (Str × Int))) (th hc hk hh : Addr) (kas : List KB) : Prop where
  top : F' th = some (.tup [.ref hc, .ref hk, .ref hh])
  c_ : F' hc = some (.lst (cols.map V.str))
  k_ : F' hk = some (.lst (kas.map fun a => V.ref a.1))
  len : kas.length = kds.length
  ct : ∀ (j : Nat) a k, kas[j]? = some a → kds[j]? = some k → HKa G F' k a
  h_ : R F' (.list (chs.map dSum)) (.ref hh)
  nd : (hh :: kas.map fun a => a.2.1).Nodup
  sep : ∀ b, (b = hc ∨ b = hk ∨ ∃ a ∈ kas, b = a.2.2) → b ∉ hh :: kas.map (fun a => a.2.1)
  ne : hc ≠ hk
  sn : (hc :: hk :: kas.map fun a => a.2.2).Nodup
def LKw (G H' : Hp) (k : KD) (a : KB) : Prop :=
  G a.1 = some (.tup [.str k.name, .ref a.2.1, .ref a.2.2]) ∧ (∃ xs, H' a.2.1 = some (.lst xs) ∧ RA G (k.rows.map dInts) xs) ∧ R G (.list (k.steps.map dStep)) (.ref a.2.2)
theorem LKAt.w {G H : Hp} {k : KD} {a : KB} (h : LKAt G H k a) : LKw G H k a := ⟨h.1, h.2.1, h.2.2.1⟩
/-- the data as it is passed on: frozen in G but for the lists of states and of checks -/
structure DIn (G H : Hp) (w t0 : Addr) (cols : List Str) (kds : List KD) (chk : List (List Int)) : Prop where
  ex : ∃ (c ks ch : Addr) (kas : List KB) (xs : List V), G t0 = some (.tup [.ref c, .ref ks, .ref ch]) ∧ G c = some (.lst (cols.map V.str)) ∧ G ks = some (.lst (kas.map fun a => V.ref a.1)) ∧ kas.length = kds.length ∧
    (∀ (j : Nat) (a : KB) k, kas[j]? = some a → kds[j]? = some k → LKw G H k a ∧ a.2.1 ≠ w) ∧ H ch = some (.lst xs) ∧ RA G (chk.map dInts) xs ∧ ch ≠ w
def spHanded : Sp := fun vs H Q _ => ∃ (w t0 : Addr) (cols : List Str) (kds : List KD) (chk : List (List Int)) (N : Nat) (G : Hp), vs = [.ref w, .ref t0] ∧ Same G H ∧ G w = none ∧ DIn G H w t0 cols kds chk ∧ GoodD cols kds chk ∧ Wl H w N ∧ N ≤ 1000000 ∧
  ∀ (th hc hk hh : Addr) (kds' : List KD) (chs : List (List (Str × Int))) (kas : List KB) (H' F' : Hp), kds'.length = kds.length → (∀ (j : Nat) k k', kds[j]? = some k → kds'[j]? = some k' → WithS cols k k') → chs.length = chk.length →
    (∀ (j : Nat) row tb, chk[j]? = some row → chs[j]? = some tb → SumOf cols row tb) → Sm w H H' → Wl H' w (N + 1000) → Gr emp H F' H' → HD G F' cols kds' chs th hc hk hh kas → Q (.ref th) H'
theorem SumOf_list {cols : List Str} {rows : List (List Int)} {ds : List PyData} (hl : ds.length = rows.length) (h : ∀ (i : Nat) d, ds[i]? = some d → ∃ row tb, rows[i]? = some row ∧ SumOf cols row tb ∧ d = dSum tb) :
    ∃ tbs : List (List (Str × Int)), ds = tbs.map dSum ∧ tbs.length = rows.length ∧ ∀ (i : Nat) row tb, rows[i]? = some row → tbs[i]? = some tb → SumOf cols row tb := by
  induction ds generalizing rows with
  | nil =>
    refine ⟨[], rfl, by simpa using hl, fun i row tb _ e => by simp at e⟩
  | cons d ds ih =>
    obtain ⟨row, tb, e1, e2, e3⟩ := h 0 d rfl
    cases rows with
    | nil => simp at e1
    | cons r rs =>
      have er : r = row := by simpa using e1
      subst er
      obtain ⟨tbs, h1, h2, h3⟩ := ih (rows := rs) (by simpa using hl) fun i d' e => by
        obtain ⟨row', tb', a1, a2, a3⟩ := h (i + 1) d' (by simpa using e)
        exact ⟨row', tb', by simpa using a1, a2, a3⟩
      refine ⟨tb :: tbs, by rw [e3, h1]; rfl, by simp [h2], fun i row' tb' a1 a2 => ?_⟩
      cases i with
      | zero =>
        have b1 : r = row' := by simpa using a1
        have b2 : tb = tb' := by simpa using a2
        rw [← b1, ← b2]; exact e2
      | succ i => exact h3 i row' tb' (by simpa using a1) (by simpa using a2)
section
variable {P : Program} {w : World} {K : PySem.W.Frag} {mg : Str → Option Value} {base : Heap}
theorem ok_law_handed (T : Txt K mg) : Fn P w K mg base 3 "_law_handed" ["well", "data"] spHanded := by
  have G_law_sum := ok_law_sum (P := P) (w := w) (base := base) T
  refine T.d_law_handed.fn sc_law_handed (fun vs H Q E h => ?_) (fun cdv A outer f s H vs Q E hr h => ?_)
  · obtain ⟨_, _, _, _, _, _, _, rfl, _⟩ := h; rfl
  · obtain ⟨w, t0, cols, kds, chk, N, G, rfl, sG, gw, ⟨c, ks, ch, kas0, xsc, ht0, hc, hks, kl0, hk0, hch, hcr, chw⟩, good, hw, hN, q⟩ := h
    refine ⟨_, (pss_cons (ps_set (i := 2) sc_law_handed.nd rfl (Or.inl rfl) (pe_lst pa_nil)) (pss_cons (ps_for PassesOwn.never rfl (pi_list (pe_ix ix_tup (pv 1) pe_int (fun _ _ => rfl))) (pg_tup (by rfl) (pgs_cons (pg_name (i := 3) sc_law_handed.nd rfl (Or.inl rfl)) (pgs_cons (pg_name (i := 4) sc_law_handed.nd rfl (Or.inl rfl)) (pgs_cons (pg_name (i := 5) sc_law_handed.nd rfl (Or.inl rfl)) pgs_nil)))) (pss_one (ps_expr (pe_bm PySem.F.plainAttrs_list PySem.F.slot_list_append PySem.F.type_list_append mt_append (pv 2) (pa_cons (pe_tup (pa_cons (pv 3) (pa_cons (pe_lc (own := [("counts", 7)]) (g := gName 7) (by rfl) sc_law_handed.nd (pi_list (pv 4)) (blkOk_by (own := [("counts", 7)]) (N := ["well", "data", "kinds", "name", "states", "steps", "factors", "counts"]) (sc := defScope s_law_handed) (by decide +kernel)) (fun _ _ _ _ _ => pg_name (i := 7) sc_law_handed.nd rfl (by first | exact Or.inl rfl | exact Or.inr rfl)) (fun _ _ _ _ _ => pts_nil) (fun _ _ _ _ _ => (pe_fn G_law_sum (hr.mono (by decide)) (by rfl) (pa_cons (pv 0) (pa_cons (pe_ix (ix_tupK (K := K)) (pv 1) pe_int (fun _ _ => rfl)) (pa_cons (pv 7) pa_nil)))))) (pa_cons (pe_callTy call_list_of (by rfl) T.z_list (by decide +kernel) (pa_cons (pv 5) pa_nil)) pa_nil)))) pa_nil))))) (pss_one (ps_ret (pe_tup (pa_cons (pe_callTy call_list_of (by rfl) T.z_list (by decide +kernel) (pa_cons (pe_ix ix_tup (pv 1) pe_int (fun _ _ => rfl)) pa_nil)) (pa_cons (pv 2) (pa_cons (pe_lc (own := [("factors", 6)]) (g := gName 6) (by rfl) sc_law_handed.nd (pi_list (pe_ix ix_tup (pv 1) pe_int (fun _ _ => rfl))) (blkOk_by (own := [("factors", 6)]) (N := ["well", "data", "kinds", "name", "states", "steps", "factors", "counts"]) (sc := defScope s_law_handed) (by decide +kernel)) (fun _ _ _ _ _ => pg_name (i := 6) sc_law_handed.nd rfl (by first | exact Or.inl rfl | exact Or.inr rfl)) (fun _ _ _ _ _ => pts_nil) (fun _ _ _ _ _ => (pe_fn G_law_sum (hr.mono (by decide)) (by rfl) (pa_cons (pv 0) (pa_cons (pe_ix (ix_tupK (K := K)) (pv 1) pe_int (fun _ _ => rfl)) (pa_cons (pv 6) pa_nil)))))) pa_nil)))))))), ?_⟩
    have nw : ∀ b o, G b = some o → b ≠ w := fun b o e z => by rw [z, gw] at e; cases e
    refine ⟨Nat.zero_le _, fun D hD => ?_⟩
    have nDw : D ≠ w := fun z => hw.ne (z ▸ hD)
    have s1 := same_upd (o := .lst []) hD
    refine ⟨_, rfl, t0, _, _, _, rfl, rfl, SqT.of (s1 _ _ (sG _ _ ht0)), rfl, ks, rfl, ⟨_, SqL.of (s1 _ _ (sG _ _ hks))⟩, for_list (K := K) (a := ks) (xs := kas0.map fun a => V.ref a.1)
      (fun i σ H' => ∃ v3 v4 v5 kds' kas F', σ = [some (.ref w), some (.ref t0), some (.ref D), v3, v4, v5, none, none] ∧ kds'.length = i ∧ kas.length = i ∧ (∀ (j : Nat) k k', kds[j]? = some k → kds'[j]? = some k' → WithS cols k k') ∧ Sm w H H' ∧ Wl H' w (N + 80 * i) ∧
        H' D = some (.lst (kas.map fun a => V.ref a.1)) ∧ Gr emp H F' H' ∧ F' D = none ∧ F' w = none ∧ (∀ (j : Nat) a k, kas[j]? = some a → kds'[j]? = some k → HKa G F' k a) ∧ (kas.map fun a => a.2.1).Nodup ∧ (∀ a ∈ kas, ∀ a' ∈ kas, a.2.2 ≠ a'.2.1) ∧ (D :: kas.map fun a => a.2.2).Nodup)
      ⟨none, none, none, [], [], emp, rfl, rfl, rfl, (fun j k k' _ e => by simp at e), Sm.same s1, hw.new hD, upd_same, (Gr.refl (emp_same H)).put rfl, rfl, rfl, (fun j a k e => by simp at e), by simp, (fun a h => nomatch h), by simp⟩ (fun i σ H' _ h => ?_) ?_ ?_⟩
    · obtain ⟨_, _, _, _, _, _, _, _, _, _, sm, _⟩ := h
      exact SqL.of (sm _ _ (nw _ _ hks) (sG _ _ hks))
    · rintro i x σ H' hx ⟨v3, v4, v5, kds', kas, F', rfl, kl', al', hws, sm, wl, hD', gr, fD, fw, ct, nd, sp_, sn⟩
      rw [List.getElem?_map] at hx
      obtain ⟨a0, ea0, rfl⟩ := Option.map_eq_some_iff.mp hx
      have hi : i < kds.length := by rw [← kl0]; exact (List.getElem?_eq_some_iff.mp ea0).1
      have eK : kds[i]? = some kds[i] := List.getElem?_eq_getElem hi
      have gk := good.k _ (List.getElem_mem hi)
      have hi8 := good.len
      generalize kds[i] = k at *
      obtain ⟨⟨ht, ⟨xs, hxs, hra⟩, hsteps⟩, hstw⟩ := hk0 i a0 k ea0 eK
      obtain ⟨_, zs, es, hzs, hza⟩ := R_list.mp hsteps
      cases es
      have hxl : xs.length = k.rows.length := by rw [RA.len hra, List.length_map]
      have rl := gk.len
      refine ⟨a0.1, _, rfl, SqT.of (sm _ _ (nw _ _ ht) (sG _ _ ht)), rfl, _, _, rfl, _, _, rfl, _, _, rfl, rfl, ?_⟩
      have hxs' := sm _ _ hstw hxs
      refine ⟨_, rfl, .inl ⟨rfl, _, SqL.of hD'⟩, _, rfl, _, rfl, a0.2.1, rfl, ⟨_, SqL.of hxs'⟩, fun D2 hD2 => ?_⟩
      refine lc_dataW (K := K) (a := a0.2.1) (xs := xs) (w := w) (N := N + 80 * i) (c := 2) (F0 := F') (fun j d => ∃ row tb, k.rows[j]? = some row ∧ SumOf cols row tb ∧ d = dSum tb) (by omega) hxs' hstw hD2 wl gr.sub fw (fun j x F2 H2 Q' hx2 s2 w2 g2 nD2 f2D f2w kk => ?_) (fun ds F2 H2 ys dl hds s2 w2 g2 f2D f2w ra2 hD2' => ?_)
      · have hj : j < k.rows.length := by rw [← hxl]; exact (List.getElem?_eq_some_iff.mp hx2).1
        have eR : k.rows[j]? = some k.rows[j] := List.getElem?_eq_getElem hj
        have gr' := gk.rows _ (List.getElem_mem hj)
        generalize k.rows[j] = row at *
        obtain ⟨x', hx', hR⟩ := RA.at hra (show (k.rows.map dInts)[j]? = some (dInts row) by rw [List.getElem?_map, eR]; rfl)
        rw [hx2] at hx'
        cases hx'
        obtain ⟨n, rfl, hn⟩ := R_dInts.mp hR
        have sH := sm.trans s2
        refine ⟨rfl, _, rfl, _, rfl, t0, _, _, _, rfl, rfl, SqT.of (sH _ _ (nw _ _ ht0) (sG _ _ ht0)), rfl, _, rfl, w, c, n, cols, row, N + 80 * i + 2 * j, (by rfl), sH _ _ (nw _ _ hc) (sG _ _ hc), sH _ _ (nw _ _ hn) (sG _ _ hn), w2, by omega, good.c.nd, good.c.len, gr'.1, nw _ _ hc, nw _ _ hn, fun p tb H4 hp so s4 w4 h4 => ?_⟩
        refine kk _ _ _ _ ⟨row, tb, eR, so, rfl⟩ s4 w4 (Gr.one (fun b o e => s4 b o (fun z => by rw [z, f2w] at e; cases e) (g2.sub b o e)) hp h4) (R_dSum.mpr ⟨p, rfl, upd_same⟩)
      obtain ⟨tbs, ed, tl, tv⟩ := SumOf_list (by omega) hds
      subst ed
      have sH := sm.trans s2
      have hzs' := sH _ _ (nw _ _ hzs) (sG _ _ hzs)
      refine ⟨_, rfl, a0.2.2, _, rfl, .inl (SqL.of hzs'), fun sp hsp => ?_⟩
      have s3 := same_upd (o := .lst zs) hsp
      refine ⟨(show 3 ≤ sizeLine by decide), fun t ht => ?_⟩
      have s4 := same_upd (o := .tup [.str k.name, .ref D2, .ref sp]) ht
      have hD4 := s4 _ _ (s3 _ _ (s2 _ _ nDw hD'))
      refine ⟨_, _, _, rfl, rfl, hD4, by rw [List.length_map]; exact small1000 (by omega), ?_⟩
      have g12 := gr.trans g2 (fun z hz => sm.free wl.ne hz)
      have f2Dm := g2.out fD (some_ne hD')
      have sm2free : ∀ {b}, H2 b = none → H' b = none := fun hb => s2.free w2.ne hb
      have hD20 : H D2 = none := sm.free wl.ne hD2
      have hsp0 : H sp = none := sH.free w2.ne hsp
      have ht00 : H t = none := sH.free w2.ne (same_none s3 ht)
      have gA := ((g12.snoc hD20 hD2').step s3).snoc (D := sp) (o := .lst zs) hsp0 upd_same
      have gB := (gA.step s4).snoc (D := t) (o := .tup [.str k.name, .ref D2, .ref sp]) ht00 upd_same
      have nDD2 : D ≠ D2 := fun z => by rw [← z, hD'] at hD2; cases hD2
      have nDsp : D ≠ sp := fun z => by have := s2 _ _ nDw hD'; rw [z, hsp] at this; cases this
      have nDt : D ≠ t := fun z => by have := s3 _ _ (s2 _ _ nDw hD'); rw [z, ht] at this; cases this
      have nspD2 : sp ≠ D2 := fun z => by rw [z, hD2'] at hsp; cases hsp
      have ntD2 : t ≠ D2 := fun z => by have := s3 _ _ hD2'; rw [← z, ht] at this; cases this
      have ntsp : t ≠ sp := fun z => by rw [z, upd_same] at ht; cases ht
      have w2ne : ∀ b, b = D2 ∨ b = sp ∨ b = t → b ≠ w := by
        rintro b (rfl | rfl | rfl)
        · exact fun z => by subst z; exact wl.ne hD2
        · exact fun z => by subst z; exact w2.ne hsp
        · exact fun z => by subst z; exact (w2.new hsp).ne ht
      have le2 : Same F2 (upd (upd (upd F2 D2 (.lst ys)) sp (.lst zs)) t (.tup [.str k.name, .ref D2, .ref sp])) := fun b o e => by
        have hb := g2.sub _ _ e
        rw [upd_ne (fun z => by have := s3 _ _ hb; rw [z, ht] at this; cases this), upd_ne (fun z => by rw [z, hsp] at hb; cases hb), upd_ne (fun z => by rw [z, f2D] at e; cases e)]
        exact e
      have ex : ∀ a ∈ kas, H' a.2.1 ≠ none ∧ H' a.2.2 ≠ none := fun a ha => by
        obtain ⟨j, hj, ej⟩ := List.mem_iff_getElem.mp ha
        have e1 : kas[j]? = some a := by rw [List.getElem?_eq_getElem hj, ej]
        exact (ct j a _ e1 (List.getElem?_eq_getElem (show j < kds'.length by omega))).ex gr.sub
      refine ⟨_, _, _, kds' ++ [{ k with sums := tbs }], kas ++ [(t, D2, sp)], _, rfl, by simp [kl'], by simp [al'], ?_, ?_, ?_, ?_, gB.put ?_, ?_, ?_, ?_, ?_, ?_, ?_⟩
      · intro j k1 k2 e1 e2
        by_cases hj : j < kds'.length
        · rw [List.getElem?_append_left hj] at e2; exact hws j k1 k2 e1 e2
        · have ej : j = i := by
            have := (List.getElem?_eq_some_iff.mp e2).1
            simp at this
            omega
          subst ej
          rw [List.getElem?_append_right (by omega)] at e2
          have e0 : j - kds'.length = 0 := by omega
          rw [e0] at e2
          have e3 : ({ k with sums := tbs } : KD) = k2 := by simpa using e2
          rw [eK] at e1
          cases e1
          subst e3
          exact ⟨rfl, rfl, rfl, tl, tv⟩
      · exact Sm.new ((sH.trans (Sm.same s3)).trans (Sm.same s4)) hD
      · exact (((w2.same s3).same s4).put nDw).mono (by omega)
      · rw [upd_same, List.map_append]; rfl
      · rw [upd_ne nDt, upd_ne nDsp, upd_ne nDD2]; exact f2Dm
      · rw [upd_ne nDt, upd_ne nDsp, upd_ne nDD2]; exact f2Dm
      · rw [upd_ne (Ne.symm (w2ne t (.inr (.inr rfl)))), upd_ne (Ne.symm (w2ne sp (.inr (.inl rfl)))), upd_ne (Ne.symm (w2ne D2 (.inl rfl)))]; exact f2w
      · intro j a k2 e1 e2
        by_cases hj : j < kas.length
        · rw [List.getElem?_append_left hj] at e1
          rw [List.getElem?_append_left (by omega)] at e2
          exact ((ct j a k2 e1 e2).mono g2.le).mono le2
        · have ej : j = i := by
            have := (List.getElem?_eq_some_iff.mp e1).1
            simp at this
            omega
          subst ej
          rw [List.getElem?_append_right (by omega)] at e1 e2
          have e0 : j - kas.length = 0 := by omega
          have e00 : j - kds'.length = 0 := by omega
          rw [e0] at e1
          rw [e00] at e2
          have e3 : (t, D2, sp) = a := by simpa using e1
          have e4 : ({ k with sums := tbs } : KD) = k2 := by simpa using e2
          subst e3
          subst e4
          refine ⟨upd_same, R_list.mpr ⟨D2, ys, rfl, ?_, RA.mono le2 _ _ ra2⟩, zs, ?_, hza⟩
          · rw [upd_ne (Ne.symm ntD2), upd_ne (Ne.symm nspD2)]; exact upd_same
          · rw [upd_ne (Ne.symm ntsp)]; exact upd_same
      · rw [List.map_append, List.nodup_append]
        refine ⟨nd, by simp, ?_⟩
        intro x hx y hy e
        have hy' : y = D2 := by simpa using hy
        obtain ⟨a, ha, rfl⟩ := List.mem_map.mp hx
        exact (ex a ha).1 (by rw [e, hy']; exact hD2)
      · intro a ha a' ha' e
        have hsp2 : ∀ b, H' b ≠ none → b ≠ sp := fun b hb z => by subst z; exact hb (sm2free hsp)
        rcases List.mem_append.mp ha with ha | ha
        · rcases List.mem_append.mp ha' with ha' | ha'
          · exact sp_ a ha a' ha' e
          · rw [List.mem_singleton.mp ha'] at e
            exact (ex a ha).2 (by rw [e]; exact hD2)
        · rw [List.mem_singleton.mp ha] at e
          rcases List.mem_append.mp ha' with ha' | ha'
          · exact hsp2 _ (ex a' ha').1 e.symm
          · rw [List.mem_singleton.mp ha'] at e
            exact nspD2 e
      · rw [List.map_append]
        show ((D :: kas.map fun a => a.2.2) ++ [sp]).Nodup
        rw [List.nodup_append]
        refine ⟨sn, by simp, ?_⟩
        intro x hx y hy e
        have hy' : y = sp := by simpa using hy
        rw [hy'] at e
        rcases List.mem_cons.mp hx with z | z
        · exact nDsp (z.symm.trans e)
        · obtain ⟨a, ha, rfl⟩ := List.mem_map.mp z
          exact (ex a ha).2 (by rw [e]; exact sm2free hsp)
    · rintro σ H' ⟨v3, v4, v5, kds', kas, F', rfl, kl', al', hws, sm, wl, hD', gr, fD, fw, ct, nd, sp_, sn⟩
      rw [List.length_map] at kl' al' wl
      have hi8 := good.len
      have hch' := sm _ _ chw hch
      refine ⟨_, rfl, t0, _, _, _, rfl, rfl, SqT.of (sm _ _ (nw _ _ ht0) (sG _ _ ht0)), rfl, c, _, rfl, .inl (SqL.of (sm _ _ (nw _ _ hc) (sG _ _ hc))), fun hc2 hhc => ?_⟩
      have s2 := same_upd (o := .lst (cols.map V.str)) hhc
      have hch2 := s2 _ _ hch'
      refine ⟨_, rfl, _, rfl, t0, _, _, _, rfl, rfl, SqT.of (s2 _ _ (sm _ _ (nw _ _ ht0) (sG _ _ ht0))), rfl, ch, rfl, ⟨_, SqL.of hch2⟩, fun D3 hD3 => ?_⟩
      have hxl : xsc.length = chk.length := by rw [RA.len hcr, List.length_map]
      have hl8 := good.hlen
      refine lc_dataW (K := K) (a := ch) (xs := xsc) (w := w) (N := N + 80 * kas0.length) (c := 2) (F0 := F') (fun j d => ∃ row tb, chk[j]? = some row ∧ SumOf cols row tb ∧ d = dSum tb) (by omega) hch2 chw hD3 (wl.same s2) (gr.sub.trans s2) fw (fun j x F2 H2 Q' hx2 s3 w3 g3 nD3 f3D f3w kk => ?_) (fun ds F2 H2 ys dl hds s3 w3 g3 f3D f3w ra3 hD3' => ?_)
      · have hj : j < chk.length := by rw [← hxl]; exact (List.getElem?_eq_some_iff.mp hx2).1
        have eR : chk[j]? = some chk[j] := List.getElem?_eq_getElem hj
        have gr' := good.h _ (List.getElem_mem hj)
        generalize chk[j] = row at *
        obtain ⟨x', hx', hR⟩ := RA.at hcr (show (chk.map dInts)[j]? = some (dInts row) by rw [List.getElem?_map, eR]; rfl)
        rw [hx2] at hx'
        cases hx'
        obtain ⟨n, rfl, hn⟩ := R_dInts.mp hR
        have sH := (sm.trans (Sm.same s2)).trans s3
        refine ⟨rfl, _, rfl, _, rfl, t0, _, _, _, rfl, rfl, SqT.of (sH _ _ (nw _ _ ht0) (sG _ _ ht0)), rfl, _, rfl, w, c, n, cols, row, N + 80 * kas0.length + 2 * j, (by rfl), sH _ _ (nw _ _ hc) (sG _ _ hc), sH _ _ (nw _ _ hn) (sG _ _ hn), w3, by omega, good.c.nd, good.c.len, gr'.1, nw _ _ hc, nw _ _ hn, fun p tb H4 hp so s4 w4 h4 => ?_⟩
        refine kk _ _ _ _ ⟨row, tb, eR, so, rfl⟩ s4 w4 (Gr.one (fun b o e => s4 b o (fun z => by rw [z, f3w] at e; cases e) (g3.sub b o e)) hp h4) (R_dSum.mpr ⟨p, rfl, upd_same⟩)
      obtain ⟨tbs, ed, tl, tv⟩ := SumOf_list (by omega) hds
      subst ed
      refine ⟨(show 3 ≤ sizeLine by decide), fun th hth => ?_⟩
      have s4 := same_upd (o := .tup [.ref hc2, .ref D, .ref D3]) hth
      have sAll := (sm.trans (Sm.same s2)).trans s3
      have cx : ∀ a ∈ kas, ∃ k, HKa G F' k a := fun a ha => by
        obtain ⟨j, hj, ej⟩ := List.mem_iff_getElem.mp ha
        have e1 : kas[j]? = some a := by rw [List.getElem?_eq_getElem hj, ej]
        exact ⟨_, ct j a _ e1 (List.getElem?_eq_getElem (show j < kds'.length by omega))⟩
      have ex : ∀ a ∈ kas, H' a.2.1 ≠ none ∧ H' a.2.2 ≠ none := fun a ha => by
        obtain ⟨k, h⟩ := cx a ha
        exact h.ex gr.sub
      have exF : ∀ a ∈ kas, ∃ o, F' a.2.1 = some o := fun a ha => by
        obtain ⟨k, _, h2, _⟩ := cx a ha
        obtain ⟨_, us, eu, hu, _⟩ := R_list.mp h2
        cases eu
        exact ⟨_, hu⟩
      have hD3n : ∀ b, H' b ≠ none → b ≠ D3 := fun b hb z => by subst z; exact hb (same_none s2 hD3)
      have wS := wl.same s2
      have hhc0 : H hc2 = none := sm.free wl.ne hhc
      have hD30 : H D3 = none := (sm.trans (Sm.same s2)).free wS.ne hD3
      have hth0 : H th = none := sAll.free w3.ne hth
      have hcw2 : hc2 ≠ w := fun z => wl.ne (z ▸ hhc)
      have hD2 := s3 _ _ nDw (s2 _ _ hD')
      have hc22 := s3 _ _ hcw2 (upd_same (H := H') (o := .lst (cols.map V.str)))
      have g5 := (gr.step s2).trans g3 (fun z hz => (sm.trans (Sm.same s2)).free wS.ne hz)
      have g6 := ((((g5.snoc hD30 hD3').snoc hhc0 hc22).snoc hD hD2).step s4).snoc (D := th) (o := .tup [.ref hc2, .ref D, .ref D3]) hth0 upd_same
      have f3Dm := g3.out fD (some_ne (s2 _ _ hD'))
      have f3hc := g3.out (same_none gr.sub hhc) (some_ne (upd_same (H := H') (o := .lst (cols.map V.str))))
      have nth : ∀ b, H2 b ≠ none → b ≠ th := fun b hb z => hb (z ▸ hth)
      have nDhc : D ≠ hc2 := fun z => by rw [z, hhc] at hD'; cases hD'
      have nDD3 : D ≠ D3 := fun z => by have := s2 _ _ hD'; rw [z, hD3] at this; cases this
      have nhcD3 : hc2 ≠ D3 := fun z => by rw [← z, upd_same] at hD3; cases hD3
      have le3 : Same F2 (upd (upd (upd (upd F2 D3 (.lst ys)) hc2 (.lst (cols.map V.str))) D (.lst (kas.map fun a => V.ref a.1))) th (.tup [.ref hc2, .ref D, .ref D3])) := fun b o e => by
        rw [upd_ne (nth b (some_ne (g3.sub _ _ e))), upd_ne (fun z => by rw [z, f3Dm] at e; cases e), upd_ne (fun z => by rw [z, f3hc] at e; cases e), upd_ne (fun z => by rw [z, f3D] at e; cases e)]
        exact e
      refine q th hc2 D D3 kds' tbs kas _ _ (by omega) hws tl tv (sAll.trans (Sm.same s4)) ((w3.same s4).mono (by omega)) g6 ⟨upd_same, ?_, ?_, by omega, ?_, ?_, ?_, ?_, Ne.symm nDhc, ?_⟩
      · rw [upd_ne (nth hc2 (some_ne hc22)), upd_ne (Ne.symm nDhc)]; exact upd_same
      · rw [upd_ne (nth D (some_ne hD2))]; exact upd_same
      · intro j a k e1 e2
        exact ((ct j a k e1 e2).mono g3.le).mono le3
      · refine R_list.mpr ⟨D3, ys, rfl, ?_, RA.mono le3 _ _ ra3⟩
        rw [upd_ne (nth D3 (some_ne hD3')), upd_ne (Ne.symm nDD3), upd_ne (Ne.symm nhcD3)]; exact upd_same
      · rw [List.nodup_cons]
        refine ⟨fun h => ?_, nd⟩
        obtain ⟨a, ha, e⟩ := List.mem_map.mp h
        exact hD3n _ (ex a ha).1 e
      · rintro b hb z
        rcases List.mem_cons.mp z with z | z
        · rcases hb with hb | hb | ⟨a, ha, hb⟩
          · exact nhcD3 (hb.symm.trans z)
          · exact nDD3 (hb.symm.trans z)
          · exact hD3n _ (ex a ha).2 (hb.symm.trans z)
        · obtain ⟨a', ha', e⟩ := List.mem_map.mp z
          rcases hb with hb | hb | ⟨a, ha, hb⟩
          · exact (ex a' ha').1 (by rw [e, hb]; exact hhc)
          · obtain ⟨o, ho⟩ := exF a' ha'
            rw [e, hb, fD] at ho
            cases ho
          · exact sp_ a ha a' ha' (hb.symm.trans e.symm)
      · rw [List.nodup_cons]
        refine ⟨fun h => ?_, sn⟩
        rcases List.mem_cons.mp h with z | z
        · exact nDhc z.symm
        · obtain ⟨a, ha, e⟩ := List.mem_map.mp z
          exact (ex a ha).2 (by rw [e]; exact hhc)
end
end Pz
namespace Pz
open PySem L2
open PyProof.Rows (envOfC)
/-! ### data and what is handed, lists alone -/
theorem plain_dRows (rows : List (List Int)) : plain (dRows rows) = true := by
  simp only [dRows, plain]
  exact plainAll_of fun x hx => by obtain ⟨i, _, rfl⟩ := List.mem_map.mp hx; exact plain_dInts i
theorem depth_dRows (rows : List (List Int)) : (dRows rows).depth ≤ 2 := by
  simp only [dRows, PyData.depth]
  have := depthAll_le (n := 1) (xs := rows.map dInts) fun x hx => by obtain ⟨i, _, rfl⟩ := List.mem_map.mp hx; exact depth_dInts i
  omega
theorem RA.last {F : Hp} {ds : List PyData} {d : PyData} {xs : List V} (h : RA F ds xs) (e : ds.getLast? = some d) : ∃ xs0 x, xs = xs0 ++ [x] ∧ R F d x := by
  rw [List.getLast?_eq_getElem?] at e
  obtain ⟨x, ex, hx⟩ := RA.at h e
  rw [← RA.len h, ← List.getLast?_eq_getElem?] at ex
  obtain ⟨ys, rfl⟩ := List.getLast?_eq_some_iff.mp ex
  exact ⟨ys, x, rfl, hx⟩
/-- the last one once more -/
def ext {α : Type} (l : List α) : List α := l ++ l.getLast?.toList
theorem ext_nil {α : Type} : ext ([] : List α) = [] := rfl
theorem ext_some {α : Type} {l : List α} {x : α} (h : l.getLast? = some x) : ext l = l ++ [x] := by unfold ext; rw [h]; rfl
theorem last_map {α β : Type} {l : List α} {x : α} (f : α → β) (h : l.getLast? = some x) : (l.map f).getLast? = some (f x) := by
  obtain ⟨ys, rfl⟩ := List.getLast?_eq_some_iff.mp h
  rw [List.map_append]
  exact List.getLast?_eq_some_iff.mpr ⟨_, rfl⟩
theorem last_ex {α : Type} {l : List α} (h : 0 < l.length) : ∃ x, l.getLast? = some x := by
  cases e : l.getLast? with
  | some x => exact ⟨x, rfl⟩
  | none => rw [List.getLast?_eq_none_iff] at e; subst e; exact absurd h (Nat.lt_irrefl 0)
def extR (k : KD) : KD := { k with rows := ext k.rows }
def extS (k : KD) : KD := { k with sums := ext k.sums }
/-- the data: in G what stands, in the heap alone its lists of states and of checks -/
structure Dat (G H : Hp) (t0 : Addr) (cols : List Str) (kds : List KD) (chk : List (List Int)) (c ks ch : Addr) (kas : List KB) : Prop where
  top : G t0 = some (.tup [.ref c, .ref ks, .ref ch])
  c_ : G c = some (.lst (cols.map V.str))
  k_ : G ks = some (.lst (kas.map fun a => V.ref a.1))
  len : kas.length = kds.length
  ct : ∀ (j : Nat) a k, kas[j]? = some a → kds[j]? = some k → LKAt G H k a
  ch_ : ∃ xs, H ch = some (.lst xs) ∧ RA G (chk.map dInts) xs
  fch : G ch = none
def HKn (G F H : Hp) (k : KD) (a : KB) : Prop := F a.1 = some (.tup [.str k.name, .ref a.2.1, .ref a.2.2]) ∧ (∃ ys, H a.2.1 = some (.lst ys) ∧ RA F (k.sums.map dSum) ys) ∧ (∃ zs, F a.2.2 = some (.lst zs) ∧ RA G (k.steps.map dStep) zs) ∧ F a.2.1 = none
/-- what is handed, its lists of states and of checks in the heap alone -/
structure Han (G F H : Hp) (th : Addr) (cols : List Str) (kds : List KD) (chs : List (List (Str × Int))) (hc hk hh : Addr) (kas : List KB) : Prop where
  top : F th = some (.tup [.ref hc, .ref hk, .ref hh])
  c_ : F hc = some (.lst (cols.map V.str))
  k_ : F hk = some (.lst (kas.map fun a => V.ref a.1))
  len : kas.length = kds.length
  ct : ∀ (j : Nat) a k, kas[j]? = some a → kds[j]? = some k → HKn G F H k a
  h_ : ∃ xs, H hh = some (.lst xs) ∧ RA F (chs.map dSum) xs
  fhh : F hh = none
theorem at_len {α β : Type} {l : List α} {m : List β} (h : l.length = m.length) {j : Nat} {x : α} (e : l[j]? = some x) : ∃ y, m[j]? = some y := by
  have := (List.getElem?_eq_some_iff.mp e).1
  exact ⟨_, List.getElem?_eq_getElem (show j < m.length by omega)⟩
theorem Dat.to {G G' H H' : Hp} {t0 : Addr} {cols : List Str} {kds kds' : List KD} {chk chk' : List (List Int)} {c ks ch : Addr} {kas : List KB} (h : Dat G H t0 cols kds chk c ks ch kas) (s : Same G G')
    (n : ∀ b ∈ ch :: kas.map (fun a => a.2.1), G' b = none) (l : kds'.length = kds.length)
    (ct : ∀ (j : Nat) a k k', kas[j]? = some a → kds[j]? = some k → kds'[j]? = some k' → k'.name = k.name ∧ k'.steps = k.steps ∧ ∃ xs, H' a.2.1 = some (.lst xs) ∧ RA G' (k'.rows.map dInts) xs)
    (hc : ∃ xs, H' ch = some (.lst xs) ∧ RA G' (chk'.map dInts) xs) : Dat G' H' t0 cols kds' chk' c ks ch kas := by
  refine ⟨s _ _ h.top, s _ _ h.c_, s _ _ h.k_, by rw [l]; exact h.len, fun j a k' e1 e2 => ?_, hc, n _ List.mem_cons_self⟩
  obtain ⟨k, e3⟩ := at_len l e2
  obtain ⟨h1, h2, h3⟩ := ct j a k k' e1 e3 e2
  obtain ⟨g1, g2, g3, g4⟩ := h.ct j a k e1 e3
  exact ⟨by rw [h1]; exact s _ _ g1, h3, by rw [h2]; exact R.mono s _ _ g3, n _ (List.mem_cons_of_mem _ (List.mem_map.mpr ⟨a, List.mem_of_getElem? e1, rfl⟩))⟩
theorem Han.to {G G' F H H' : Hp} {th : Addr} {cols : List Str} {kds kds' : List KD} {chs chs' : List (List (Str × Int))} {hc hk hh : Addr} {kas : List KB} (h : Han G F H th cols kds chs hc hk hh kas) (s : Same G G') (l : kds'.length = kds.length)
    (ct : ∀ (j : Nat) a k k', kas[j]? = some a → kds[j]? = some k → kds'[j]? = some k' → k'.name = k.name ∧ k'.steps = k.steps ∧ ∃ xs, H' a.2.1 = some (.lst xs) ∧ RA F (k'.sums.map dSum) xs)
    (hx : ∃ xs, H' hh = some (.lst xs) ∧ RA F (chs'.map dSum) xs) : Han G' F H' th cols kds' chs' hc hk hh kas := by
  refine ⟨h.top, h.c_, h.k_, by rw [l]; exact h.len, fun j a k' e1 e2 => ?_, hx, h.fhh⟩
  obtain ⟨k, e3⟩ := at_len l e2
  obtain ⟨h1, h2, h3⟩ := ct j a k k' e1 e3 e2
  obtain ⟨g1, g2, ⟨zs, g3, g5⟩, g4⟩ := h.ct j a k e1 e3
  exact ⟨by rw [h1]; exact g1, h3, ⟨zs, g3, by rw [h2]; exact RA.mono s _ _ g5⟩, g4⟩
/-- one kind changed -/
theorem set_at {α : Type} {l : List α} {i j : Nat} {x y : α} (h : (l.set i y)[j]? = some x) : (j = i ∧ x = y) ∨ (j ≠ i ∧ l[j]? = some x) := by
  by_cases e : j = i
  · subst e
    rw [List.getElem?_set_self'] at h
    cases q : l[j]? with
    | none => rw [q] at h; cases h
    | some z => rw [q] at h; cases h; exact .inl ⟨rfl, rfl⟩
  · rw [List.getElem?_set_ne (Ne.symm e)] at h
    exact .inr ⟨e, h⟩
theorem part_set {α : Type} {l m : List α} {f : α → α} {i : Nat} {x : α} (h : ∀ j, m[j]? = if j < i then (l[j]?).map f else l[j]?) (e : l[i]? = some x) : ∀ j, (m.set i (f x))[j]? = if j < i + 1 then (l[j]?).map f else l[j]? := by
  intro j
  by_cases hj : j = i
  · subst hj
    have hm := h j
    rw [if_neg (Nat.lt_irrefl j), e] at hm
    rw [List.getElem?_set_self (List.getElem?_eq_some_iff.mp hm).1, if_pos (Nat.lt_succ_self j), e]; rfl
  · rw [List.getElem?_set_ne (Ne.symm hj), h j]
    by_cases h1 : j < i
    · rw [if_pos h1, if_pos (by omega)]
    · rw [if_neg h1, if_neg (by omega)]
theorem part_end {α : Type} {l m : List α} {f : α → α} {n : Nat} (h : ∀ j, m[j]? = if j < n then (l[j]?).map f else l[j]?) (e : n = l.length) : m = l.map f := by
  apply List.ext_getElem?
  intro j
  rw [h j, List.getElem?_map]
  by_cases h1 : j < n
  · rw [if_pos h1]
  · rw [if_neg h1, List.getElem?_eq_none (by omega)]; rfl
theorem part_len {α : Type} {l m : List α} {f : α → α} {n : Nat} (h : ∀ j, m[j]? = if j < n then (l[j]?).map f else l[j]?) : m.length = l.length := by
  apply Nat.le_antisymm
  · apply Nat.le_of_not_lt
    intro z
    have := h l.length
    rw [List.getElem?_eq_getElem z, List.getElem?_eq_none (Nat.le_refl _)] at this
    by_cases h1 : l.length < n
    · rw [if_pos h1] at this; cases this
    · rw [if_neg h1] at this; cases this
  · apply Nat.le_of_not_lt
    intro z
    have := h m.length
    rw [List.getElem?_eq_none (Nat.le_refl _), List.getElem?_eq_getElem z] at this
    by_cases h1 : m.length < n
    · rw [if_pos h1] at this; cases this
    · rw [if_neg h1] at this; cases this
theorem exists_list {α β : Type} {p : α → β → Prop} : ∀ {l : List α}, (∀ x ∈ l, ∃ y, p x y) → ∃ m : List β, m.length = l.length ∧ ∀ (i : Nat) x y, l[i]? = some x → m[i]? = some y → p x y
  | [], _ => ⟨[], rfl, fun i x y e => by simp at e⟩
  | x :: l, h => by
    obtain ⟨y, hy⟩ := h x List.mem_cons_self
    obtain ⟨m, h1, h2⟩ := exists_list (p := p) (l := l) fun z hz => h z (List.mem_cons_of_mem _ hz)
    refine ⟨y :: m, by simp [h1], fun i a b e1 e2 => ?_⟩
    cases i with
    | zero =>
      have e1' : x = a := by simpa using e1
      have e2' : y = b := by simpa using e2
      rw [← e1', ← e2']; exact hy
    | succ i => exact h2 i a b (by simpa using e1) (by simpa using e2)
end Pz
namespace Pz
open PySem L2
open PyProof.Rows (envOfC)
/-! ### _law_passed_changed -/
def isD (F H H' : Hp) (y : V) : Prop := ∃ d kvs, y = .ref d ∧ (F d ≠ none ∨ H d = none) ∧ H' d = some (.dK kvs)
/-- what is left of the shape of F's objects while their owner writes them -/
structure Sh (F H : Hp) (c : Nat) (H' : Hp) : Prop where
  dk : ∀ b kvs, F b = some (.dK kvs) → ∃ kvs', H' b = some (.dK kvs')
  ls : ∀ b xs, F b = some (.lst xs) → ∃ ys, H' b = some (.lst ys) ∧ ys.length ≤ xs.length + c ∧ ∀ y ∈ ys, y ∈ xs ∨ isD F H H' y
  tp : ∀ b xs, F b = some (.tup xs) → H' b = some (.tup xs)
  out : ∀ b o, F b = none → H b = some o → H' b = some o
  ex : ∀ b, H' b = none → H b = none
theorem Sh.refl {F H : Hp} (s : Same F H) : Sh F H 0 H := ⟨fun b kvs e => ⟨kvs, s _ _ e⟩, fun b xs e => ⟨xs, s _ _ e, Nat.le_refl _, fun y hy => .inl hy⟩, fun b xs e => s _ _ e, fun b o _ e => e, fun b h => h⟩
theorem Sh.mono {F H H' : Hp} {c c' : Nat} (h : Sh F H c H') (l : c ≤ c') : Sh F H c' H' :=
  ⟨h.dk, fun b xs e => by
      obtain ⟨ys, h1, h2, h3⟩ := h.ls b xs e
      exact ⟨ys, h1, by omega, h3⟩, h.tp, h.out, h.ex⟩
theorem isD.keep {F H H' H2 : Hp} {y : V} (h : isD F H H' y) (e : ∀ b kvs, H' b = some (.dK kvs) → ∃ kvs', H2 b = some (.dK kvs')) : isD F H H2 y := by
  obtain ⟨d, kvs, rfl, h1, h2⟩ := h
  obtain ⟨kvs', h3⟩ := e d kvs h2
  exact ⟨d, kvs', rfl, h1, h3⟩
/-- a dict of ours is written -/
theorem Sh.dict {F H H' : Hp} {c : Nat} {d : Addr} {kvs kvs' : List (Key × V)} (h : Sh F H c H') (o : F d ≠ none ∨ H d = none) (e : H' d = some (.dK kvs)) : Sh F H c (upd H' d (.dK kvs')) := by
  have kd : ∀ b k, H' b = some (.dK k) → ∃ k', (upd H' d (.dK kvs')) b = some (.dK k') := fun b k hb => by
    by_cases z : b = d
    · subst z; exact ⟨_, upd_same⟩
    · exact ⟨k, by rw [upd_ne z]; exact hb⟩
  refine ⟨fun b k hb => ?_, fun b xs hb => ?_, fun b xs hb => ?_, fun b u hb hH => ?_, fun b hb => ?_⟩
  · obtain ⟨k', h1⟩ := h.dk b k hb
    exact kd b k' h1
  · obtain ⟨ys, h1, h2, h3⟩ := h.ls b xs hb
    have z : b ≠ d := fun z => by rw [z, e] at h1; cases h1
    exact ⟨ys, by rw [upd_ne z]; exact h1, h2, fun y hy => (h3 y hy).imp id fun q => q.keep kd⟩
  · have h1 := h.tp b xs hb
    rw [upd_ne (fun z => by rw [z, e] at h1; cases h1)]; exact h1
  · have z : b ≠ d := fun z => by
      subst z
      rcases o with o | o
      · exact o hb
      · rw [o] at hH; cases hH
    rw [upd_ne z]; exact h.out b u hb hH
  · by_cases z : b = d
    · subst z; rw [upd_same] at hb; cases hb
    · rw [upd_ne z] at hb; exact h.ex b hb
/-- a new dict -/
theorem Sh.new {F H H' : Hp} {c : Nat} {p : Addr} {kvs : List (Key × V)} (h : Sh F H c H') (e : H' p = none) : Sh F H c (upd H' p (.dK kvs)) ∧ isD F H (upd H' p (.dK kvs)) (.ref p) := by
  have n : ∀ b, H' b ≠ none → b ≠ p := fun b hb z => hb (z ▸ e)
  have kd : ∀ b k, H' b = some (.dK k) → ∃ k', (upd H' p (.dK kvs)) b = some (.dK k') := fun b k hb => ⟨k, by rw [upd_ne (n b (some_ne hb))]; exact hb⟩
  refine ⟨⟨fun b k hb => ?_, fun b xs hb => ?_, fun b xs hb => ?_, fun b u hb hH => ?_, fun b hb => ?_⟩, p, kvs, rfl, .inr (h.ex p e), upd_same⟩
  · obtain ⟨k', h1⟩ := h.dk b k hb
    exact kd b k' h1
  · obtain ⟨ys, h1, h2, h3⟩ := h.ls b xs hb
    exact ⟨ys, by rw [upd_ne (n b (some_ne h1))]; exact h1, h2, fun y hy => (h3 y hy).imp id fun q => q.keep kd⟩
  · have h1 := h.tp b xs hb
    rw [upd_ne (n b (some_ne h1))]; exact h1
  · have h1 := h.out b u hb hH
    rw [upd_ne (n b (some_ne h1))]; exact h1
  · by_cases z : b = p
    · subst z; rw [upd_same] at hb; cases hb
    · rw [upd_ne z] at hb; exact h.ex b hb
/-- a list of ours is written -/
theorem Sh.list {F H H' : Hp} {c c' : Nat} {l : Addr} {xs ys : List V} (h : Sh F H c H') (e : F l = some (.lst xs)) (lc : c ≤ c') (ly : ys.length ≤ xs.length + c') (k : ∀ y ∈ ys, y ∈ xs ∨ isD F H H' y) : Sh F H c' (upd H' l (.lst ys)) := by
  obtain ⟨zs, hz, _, _⟩ := h.ls l xs e
  have kd : ∀ b k, H' b = some (.dK k) → ∃ k', (upd H' l (.lst ys)) b = some (.dK k') := fun b k hb => ⟨k, by rw [upd_ne (fun z => by rw [z, hz] at hb; cases hb)]; exact hb⟩
  refine ⟨fun b k hb => ?_, fun b xs' hb => ?_, fun b xs' hb => ?_, fun b u hb hH => ?_, fun b hb => ?_⟩
  · obtain ⟨k', h1⟩ := h.dk b k hb
    exact kd b k' h1
  · by_cases z : b = l
    · subst z
      rw [e] at hb; cases hb
      exact ⟨ys, upd_same, ly, fun y hy => (k y hy).imp id fun q => q.keep kd⟩
    · obtain ⟨ys', h1, h2, h3⟩ := h.ls b xs' hb
      exact ⟨ys', by rw [upd_ne z]; exact h1, by omega, fun y hy => (h3 y hy).imp id fun q => q.keep kd⟩
  · have h1 := h.tp b xs' hb
    rw [upd_ne (fun z => by rw [z, hz] at h1; cases h1)]; exact h1
  · have z : b ≠ l := fun z => by rw [z, e] at hb; cases hb
    rw [upd_ne z]; exact h.out b u hb hH
  · by_cases z : b = l
    · subst z; rw [upd_same] at hb; cases hb
    · rw [upd_ne z] at hb; exact h.ex b hb
def Ds (F : Hp) (xs : List V) : Prop := ∀ y ∈ xs, ∃ d kvs, y = .ref d ∧ F d = some (.dK kvs)
theorem Sh.all {F H H' : Hp} {c : Nat} {xs : List V} {l : Addr} (h : Sh F H c H') (e : F l = some (.lst xs)) (d : Ds F xs) : ∃ ys, H' l = some (.lst ys) ∧ ys.length ≤ xs.length + c ∧ ∀ y ∈ ys, isD F H H' y := by
  obtain ⟨ys, h1, h2, h3⟩ := h.ls l xs e
  refine ⟨ys, h1, h2, fun y hy => (h3 y hy).elim (fun q => ?_) id⟩
  obtain ⟨d, kvs, rfl, hd⟩ := d y q
  obtain ⟨kvs', h4⟩ := h.dk d kvs hd
  exact ⟨d, kvs', rfl, .inl (some_ne hd), h4⟩
/-- less: the lists are lists -/
structure Wk (F H : Hp) (m : Nat) (H' : Hp) : Prop where
  ls : ∀ b xs, F b = some (.lst xs) → xs.length ≤ 100 → ∃ ys, H' b = some (.lst ys) ∧ ys.length ≤ m
  out : ∀ b o, F b = none → H b = some o → H' b = some o
theorem Wk.list {F H H' : Hp} {m n : Nat} {l : Addr} {xs ys : List V} (h : Wk F H m H') (e : F l = some (.lst xs)) (mn : m ≤ n) (ly : ys.length ≤ n) : Wk F H n (upd H' l (.lst ys)) := by
  refine ⟨fun b xs' hb hx => ?_, fun b u hb hH => ?_⟩
  · by_cases z : b = l
    · subst z; exact ⟨ys, upd_same, ly⟩
    · obtain ⟨us, h1, h2⟩ := h.ls b xs' hb hx
      exact ⟨us, by rw [upd_ne z]; exact h1, by omega⟩
  · rw [upd_ne (fun z => by rw [z, e] at hb; cases hb)]; exact h.out b u hb hH
theorem Wk.new {F H H' : Hp} {m : Nat} {p : Addr} {o : HO} (h : Wk F H m H') (e : H' p = none) : Wk F H m (upd H' p o) := by
  refine ⟨fun b xs' hb hx => ?_, fun b u hb hH => ?_⟩
  · obtain ⟨ys, h1, h2⟩ := h.ls b xs' hb hx
    exact ⟨ys, same_upd e _ _ h1, h2⟩
  · exact same_upd e _ _ (h.out b u hb hH)
structure HShape (F : Hp) (th hc hk hh : Addr) (cs hs : List V) (kas : List KB) : Prop where
  top : F th = some (.tup [.ref hc, .ref hk, .ref hh])
  c_ : F hc = some (.lst cs)
  cl : cs.length ≤ 100
  k_ : F hk = some (.lst (kas.map fun a => V.ref a.1))
  kl : kas.length ≤ 20
  ct : ∀ a ∈ kas, (∃ nm : Str, F a.1 = some (.tup [.str nm, .ref a.2.1, .ref a.2.2])) ∧ (∃ ys, F a.2.1 = some (.lst ys) ∧ ys.length ≤ 100 ∧ Ds F ys) ∧ (∃ zs, F a.2.2 = some (.lst zs)) ∧ a.2.1 ≠ hk ∧ a.2.2 ≠ hk
  h_ : F hh = some (.lst hs)
  hl : hs.length ≤ 100
  hd : Ds F hs
end Pz
namespace Pz
open PySem L2
open PyProof.Rows (envOfC)
/-! ### new rows are lists -/
def lstAt (H : Hp) (b : Addr) : Prop := ∃ xs, H b = some (.lst xs) ∧ xs.length ≤ 900
theorem lstAt.mono {H H' : Hp} {b : Addr} (h : lstAt H b) (s : Same H H') : lstAt H' b := by
  obtain ⟨xs, h1, h2⟩ := h
  exact ⟨xs, s _ _ h1, h2⟩
theorem lstAt.ne {H : Hp} {b : Addr} (h : lstAt H b) : H b ≠ none := by
  obtain ⟨xs, h1, h2⟩ := h
  exact some_ne h1
theorem NewRows.all {H H' : Hp} {q : Addr} {rows : List (List Int)} {rs : List Addr} (h : NewRows H H' q rows rs) (l : ∀ ns ∈ rows, ns.length ≤ 100) : ∀ r ∈ rs, lstAt H' r := by
  intro r hr
  obtain ⟨i, hi, ei⟩ := List.mem_iff_getElem.mp hr
  have e1 : rs[i]? = some r := by rw [List.getElem?_eq_getElem hi, ei]
  obtain ⟨ns, e2⟩ := at_len h.len e1
  have := l ns (List.mem_of_getElem? e2)
  exact ⟨_, h.ct i r ns e1 e2, by rw [List.length_map]; omega⟩
end Pz
namespace Pz
open PySem L2
open PyProof.Rows (envOfC)
/-! ### the program's own errors -/
abbrev s_PartErrorinit : Stmt := inClass (topS 2) 0
theorem sc_PartErrorinit : FnScope ["self", "value"] ["self", "value"] (defScope s_PartErrorinit) := ⟨rfl, rfl, rfl, by decide +kernel, rfl, by decide +kernel, by decide +kernel⟩
/-- what the top has written of an error's class -/
structure ErrT (K : PySem.W.Frag) (mg : Str → Option Value) (x : Str) (C : Addr) : Prop where
  mgC : mg x = some (.ref C)
  oex : OexC K C
  xf : XfC K C
  noV : PySem.W.findIn K (.ref C) "value" = some none
  ini : ∃ f fd, PySem.W.findIn K (.ref C) "__init__" = some (some (.ref f)) ∧ PySem.W.typeIn K (.ref f) = some (.type "function") ∧ Fun K "__init__" "PartError.__init__" s_PartErrorinit f fd ∧ Binds K fd ["self", "value"] []
theorem exm_of {K : PySem.W.Frag} {a c : Addr} {b : Bool} (base : PySem.W.subIn K (.ref c) (.type "BaseException") = some true) (cls : PySem.W.isClsIn K c = true) (ty : PySem.W.typeIn K (.ref c) = some (.type "type")) (sub : PySem.W.subIn K (.ref a) (.ref c) = some b) : PySem.W.exmOne K (.ref a) (.ref c) = some b := by
  have cls' : (PySem.W.clsIn K c).isSome = true := cls
  unfold PySem.W.exmOne
  rw [base]
  simp [PySem.W.kitCls, cls', ty, sub]
def xdV (v : V) : HO := .xd [(("value" : Str), v)]
def spErr (C : Addr) : Sp := fun vs H Q _ => ∃ (a : Addr) (v : V), vs = [.ref a, v] ∧ H a = some (exo a C none) ∧ ∀ dx, H dx = none → dx ≠ a → Q .non (upd (upd H dx (exd dx [(("value" : Str), v)])) a (exo a C (some dx)))
section
variable {P : Program} {w : World} {K : PySem.W.Frag} {mg : Str → Option Value} {base : Heap} {C : Addr} {x : Str}
theorem ok_err (T : ErrT K mg x C) {f : Addr} {fd : FuncData} (F : Fun K "__init__" "PartError.__init__" s_PartErrorinit f fd) : FnOk P w K mg base CX0 1 f fd ["self", "value"] (spErr C) := by
  refine F.ok sc_PartErrorinit (fun vs H Q E h => ?_) (fun cdv A outer s H vs Q E hr h => ?_)
  · obtain ⟨_, _, rfl, _⟩ := h; rfl
  · obtain ⟨a, v, rfl, ha, q⟩ := h
    refine ⟨_, pss_one (ps_ost (pv 0) (pv 1)), ?_⟩
    exact ⟨_, rfl, _, rfl, a, C, rfl, T.oex, T.noV, .inl ⟨ha, fun dx h1 h2 => q dx h1 h2⟩⟩
/-- raise C(e) -/
def tErr (C : Addr) (W : WX) (te : TE) : TS := fun _ σ H => te σ H fun v H1 => ∀ d, H1 d = none → W (.ref C) (some d) σ (upd H1 d (xdV v))
theorem ps_err {X : Cx} {k : Nat} {x : Str} {C : Addr} {W : WX} {e : Expr} {te : TE} {p pos pos2 : Pos} (hc : X.calm = true) (tk : Takes X W) (T : ErrT X.K X.mg x C) (hr : Room (k + 2) X.A) (hg : Gl X x) (he : PE X e te)
    (hdb : (x == ("__debug__" : Str)) = false := by decide) (hs : starEach [e] X.env = (false, eval e X.env) :: starEach [] X.env := by rfl) (hpl : (backTo pos (starEach [] X.env)).any (·.1) = false := by rfl) :
    PS X (.Raise (some (.Call (.Name x p) [e] [] pos)) none pos2) (tErr C W te) := by
  obtain ⟨f, fd, iC, tI, F, hb⟩ := T.ini
  have R := ps_raise (pos := pos2) hc tk (pmk_oex (p := p) (pos := pos) T.oex iC tI (ok_err (P := X.prog) (w := X.w) (base := X.base) T F) (hr.mono (show 1 + 1 ≤ k + 2 by omega)) hb .nil pass0 hg T.mgC (pa_cons (hs := hs) (pe_cut he) pa_nil) hdb hs hpl)
  refine ⟨fun pins s σ H D I h => R.run pins s σ H D I ?_⟩
  have key : ∀ (v : V) (H1 : Hp), (∀ d, H1 d = none → W (.ref C) (some d) σ (upd H1 d (xdV v))) → [v].length ≤ 1000 ∧ ∀ a, H1 a = none → spErr C (.ref a :: ([v] ++ [])) (upd H1 a (exo a C none))
      (fun u H2 => u = .non ∧ ∃ (d : Addr) (fs : List (Str × V)), H2 a = some (exo a C (some d)) ∧ H2 d = some (exd d fs) ∧ H1 d = none ∧ W (.ref C) (some d) σ (upd (del H2 a) d (.xd fs))) (fun _ _ _ => False) := by
    intro v H1 hw
    refine ⟨by simp, fun a ha => ⟨a, v, rfl, upd_same, fun dx h1 h2 => ⟨rfl, dx, [("value", v)], upd_same, ?_, ?_, ?_⟩⟩⟩
    · rw [upd_ne h2]; exact upd_same
    · rw [upd_ne h2] at h1; exact h1
    · have e0 : upd (del (upd (upd (upd H1 a (exo a C none)) dx (exd dx [(("value" : Str), v)])) a (exo a C (some dx))) a) dx (.xd [(("value" : Str), v)]) = upd H1 dx (xdV v) := by
        funext b
        by_cases b1 : b = dx
        · rw [b1, upd_same, upd_same]; rfl
        · rw [upd_ne b1, upd_ne b1]
          by_cases b2 : b = a
          · rw [b2, del_same, ha]
          · rw [del_ne b2, upd_ne b2, upd_ne b1, upd_ne b2]
      rw [e0]
      rw [upd_ne h2] at h1
      exact hw dx h1
  exact ⟨_, h, fun v H1 hw => key v H1 hw⟩
end
end Pz
namespace Pz
open PySem L2
open PyProof.Rows (envOfC)
/-! ### the law's own defs -/
abbrev s_law_plan : Stmt := topS 33
theorem sc_law_plan : FnScope ["well", "data", "columns", "kinds", "checks", "made", "name", "states", "steps", "counts", "check"] ["well", "data"] (defScope s_law_plan) := ⟨rfl, rfl, rfl, by decide +kernel, rfl, by decide +kernel, by decide +kernel⟩
abbrev s_law_shows : Stmt := topS 34
theorem sc_law_shows : FnScope ["plan", "data", "turn"] ["plan", "data", "turn"] (defScope s_law_shows) := ⟨rfl, rfl, rfl, by decide +kernel, rfl, by decide +kernel, by decide +kernel⟩
abbrev s_law_said : Stmt := topS 35
theorem sc_law_said : FnScope ["handed", "said", "e"] ["handed"] (defScope s_law_said) := ⟨rfl, rfl, rfl, by decide +kernel, rfl, by decide +kernel, by decide +kernel⟩
abbrev s_law_strange_columns : Stmt := topS 36
theorem sc_law_strange_columns : FnScope ["well", "columns", "found", "k", "odd"] ["well", "columns"] (defScope s_law_strange_columns) := ⟨rfl, rfl, rfl, by decide +kernel, rfl, by decide +kernel, by decide +kernel⟩
abbrev s_law_spoiled : Stmt := topS 37
theorem sc_law_spoiled : FnScope ["well", "handed", "columns", "kinds", "checks", "way", "name", "steps", "states", "counts", "strange", "column", "number", "kind"] ["well", "handed"] (defScope s_law_spoiled) := ⟨rfl, rfl, rfl, by decide +kernel, rfl, by decide +kernel, by decide +kernel⟩
abbrev s_law_right : Stmt := topS 38
theorem sc_law_right : FnScope ["well", "data", "handed", "due", "kept"] ["well"] (defScope s_law_right) := ⟨rfl, rfl, rfl, by decide +kernel, rfl, by decide +kernel, by decide +kernel⟩
abbrev s_law : Stmt := topS 39
theorem sc_law : FnScope ["script", "cells", "k"] ["script"] (defScope s_law) := ⟨rfl, rfl, rfl, by decide +kernel, rfl, by decide +kernel, by decide +kernel⟩
structure Txt2 (K : PySem.W.Frag) (mg : Str → Option Value) : Prop where
  t : Txt K mg
  d_law_plan : DefAt K mg "_law_plan" s_law_plan ["well", "data"]
  d_law_shows : DefAt K mg "_law_shows" s_law_shows ["plan", "data", "turn"]
  d_law_said : DefAt K mg "_law_said" s_law_said ["handed"]
  d_law_strange_columns : DefAt K mg "_law_strange_columns" s_law_strange_columns ["well", "columns"]
  d_law_spoiled : DefAt K mg "_law_spoiled" s_law_spoiled ["well", "handed"]
  d_law_right : DefAt K mg "_law_right" s_law_right ["well"]
  d_law : DefAt K mg "law" s_law ["script"]
end Pz
namespace Pz
open PySem L2
open PyProof.Rows (envOfC)
/-! ### _law_shows -/
def NumOk (x : Int) : Prop := -(10 ^ 14) ≤ x ∧ x ≤ 10 ^ 14
def RowOk (row : List Int) : Prop := row.length ≤ 20 ∧ ∀ x ∈ row, NumOk x
theorem num_small {x : Int} (h : 0 ≤ x) (h' : x ≤ 1000) : NumOk x := by
  have e : (10 : Int) ^ 14 = 100000000000000 := by decide
  unfold NumOk
  omega
theorem shw_name {s : Str} (h : isNm s = true) : Shw 8 0 (.str s) := shw_str (nm_ok h) (isNm_len h).2
theorem shw_tup3 {a b c n : Nat} {x y z : PyData} (h1 : Shw a n x) (h2 : Shw b n y) (h3 : Shw c n z) : Shw (a + b + c + 3) (n + 1) (.tuple [x, y, z]) := by
  have e := shwAll (m := a + b + c) (n := n) (ds := [x, y, z]) fun d hd => by
    simp only [List.mem_cons, List.not_mem_nil, or_false] at hd
    rcases hd with rfl | rfl | rfl
    · exact h1.mono (by omega) (Nat.le_refl _)
    · exact h2.mono (by omega) (Nat.le_refl _)
    · exact h3.mono (by omega) (Nat.le_refl _)
  refine ⟨e.1, e.2.1, ?_, by simp only [PyData.depth]; have := e.2.2.2; omega⟩
  simp only [PyData.bulk, PyData.bulkAll]
  have := h1.bk
  have := h2.bk
  have := h3.bk
  omega
theorem shw_cols {cols : List Str} (h : ∀ c ∈ cols, isNm c = true) (l : cols.length ≤ 20) : Shw 180 1 (dStrs cols) :=
  shw_list (m := 8) (n := 0) (l := 20) (fun d hd => by obtain ⟨s, hs, rfl⟩ := List.mem_map.mp hd; exact shw_name (h s hs)) (by rw [List.length_map]; exact l)
theorem shw_steps {steps : List (Str × Int × Int)} (l : steps.length ≤ 40) (h : ∀ s ∈ steps, isNm s.1 = true ∧ NumOk s.2.1 ∧ NumOk s.2.2) : Shw 480 2 (.list (steps.map dStep)) :=
  (shw_list (m := 11) (n := 1) (l := 40) (fun d hd => by
    obtain ⟨s, hs, rfl⟩ := List.mem_map.mp hd
    obtain ⟨h1, h2, h3⟩ := h s hs
    exact shw_tup3 (shw_name h1) (shw_int h2) (shw_int h3)) (by rw [List.length_map]; exact l))
/-- a kind within the bounds -/
structure BK (k : KD) : Prop where
  nm : isNm k.name = true
  rl : k.rows.length ≤ 40
  rows : ∀ row ∈ k.rows, RowOk row
  sl : k.steps.length ≤ 40
  st : ∀ s ∈ k.steps, isNm s.1 = true ∧ NumOk s.2.1 ∧ NumOk s.2.2
structure BD (cols : List Str) (kds : List KD) (chk : List (List Int)) : Prop where
  nm : ∀ c ∈ cols, isNm c = true
  cl : cols.length ≤ 20
  k : ∀ k ∈ kds, BK k
  kl : kds.length ≤ 20
  h : ∀ row ∈ chk, RowOk row
  hl : chk.length ≤ 40
theorem shw_chk {rows : List (List Int)} (h : ∀ row ∈ rows, RowOk row) (l : rows.length ≤ 40) : Shw 840 2 (dRows rows) := shw_rows (l := 20) (r := 40) h l
theorem shw_kind {k : KD} (h : BK k) : Shw 1331 3 (dKind k) := shw_tup3 ((shw_name h.nm).mono (Nat.le_refl _) (by decide)) (shw_chk h.rows h.rl) (shw_steps h.sl h.st)
theorem shw_kinds {kds : List KD} (h : ∀ k ∈ kds, BK k) (l : kds.length ≤ 20) : Shw 26640 4 (.list (kds.map dKind)) :=
  shw_list (m := 1331) (n := 3) (l := 20) (fun d hd => by obtain ⟨k, hk, rfl⟩ := List.mem_map.mp hd; exact shw_kind (h k hk)) (by rw [List.length_map]; exact l)
/-- the data, frozen whole -/
def DatAt (F : Hp) (t0 : Addr) (cols : List Str) (kds : List KD) (chk : List (List Int)) : Prop :=
  ∃ c ks ch, F t0 = some (.tup [.ref c, .ref ks, .ref ch]) ∧ R F (dStrs cols) (.ref c) ∧ R F (.list (kds.map dKind)) (.ref ks) ∧ R F (dRows chk) (.ref ch)
theorem DatAt.mono {F F' : Hp} {t0 : Addr} {cols : List Str} {kds : List KD} {chk : List (List Int)} (h : DatAt F t0 cols kds chk) (s : Same F F') : DatAt F' t0 cols kds chk := by
  obtain ⟨c, ks, ch, h1, h2, h3, h4⟩ := h
  exact ⟨c, ks, ch, s _ _ h1, R.mono s _ _ h2, R.mono s _ _ h3, R.mono s _ _ h4⟩
end Pz
namespace Pz
open PySem L2
open PyProof.Rows (envOfC)
/-! ### _law_shows -/
def spShows (C : Addr) : Sp := fun vs H Q _ => ∃ (F : Hp) (p t0 : Addr) (turn : Int) (cols : List Str) (kds : List KD) (chk : List (List Int)), vs = [.ref p, .ref t0, .int turn] ∧ Same F H ∧ PlanAt C F p cols kds chk ∧ DatAt F t0 cols kds chk ∧ BD cols kds chk ∧
  ∀ H' : Hp, Same H H' → Q (.bl true) H'
section
variable {P : Program} {w : World} {K : PySem.W.Frag} {mg : Str → Option Value} {base : Heap} {C : Addr}
theorem ok_law_shows (TT : Txt2 K mg) (L : PlanT K mg C) (hs : ∃ o, base.get? sysModules = some o) : FnG P w K mg base 3 "_law_shows" ["plan", "data", "turn"] (spShows C) := by
  have T := TT.t
  have G_Plan_columns := ok_Plan_columns (P := P) (w := w) (base := base) T L
  have G_Plan_kinds := ok_Plan_kinds (P := P) (w := w) (base := base) T L
  have G_Plan_checks := ok_Plan_checks (P := P) (w := w) (base := base) T L
  refine TT.d_law_shows.fnG sc_law_shows (fun vs H Q E h => ?_) (fun cdv A outer f s H vs Q hg hr h => ?_)
  · obtain ⟨_, _, _, _, _, _, _, rfl, _⟩ := h; rfl
  · obtain ⟨F, p, t0, turn, cols, kds, chk, rfl, sF, PA, DA, B, q⟩ := h
    refine ⟨_, (pss_cons (ps_if (PW.pt (pw_and (pt_cmpR op_eq (pv 2) pe_int (nomark _)) (pw_and1 (pt_cmpR op_ne (pe_callB (cr_repr hg hr hs) (by rfl) T.z_repr (by decide +kernel) (pa_cons (pe_prp G_Plan_checks (hr.mono (by decide)) (pv 0)) pa_nil)) (pe_callB (cr_repr hg hr hs) (by rfl) T.z_repr (by decide +kernel) (pa_cons (pe_ix ix_tup (pv 1) pe_int (fun _ _ => rfl)) pa_nil)) (nomark _))))) (pss_one (ps_ret pe_bl)) pss_nil) (pss_cons (ps_if (PW.pt (pw_or (pt_cmpR op_ne (pe_callB (cr_repr hg hr hs) (by rfl) T.z_repr (by decide +kernel) (pa_cons (pe_prp G_Plan_columns (hr.mono (by decide)) (pv 0)) pa_nil)) (pe_callB (cr_repr hg hr hs) (by rfl) T.z_repr (by decide +kernel) (pa_cons (pe_ix ix_tup (pv 1) pe_int (fun _ _ => rfl)) pa_nil)) (nomark _)) (pw_or1 (pt_cmpR op_ne (pe_callB (cr_repr hg hr hs) (by rfl) T.z_repr (by decide +kernel) (pa_cons (pe_prp G_Plan_kinds (hr.mono (by decide)) (pv 0)) pa_nil)) (pe_callB (cr_repr hg hr hs) (by rfl) T.z_repr (by decide +kernel) (pa_cons (pe_ix ix_tup (pv 1) pe_int (fun _ _ => rfl)) pa_nil)) (nomark _))))) (pss_one (ps_ret pe_bl)) pss_nil) (pss_one (ps_ret (pe_cmpR op_eq (pe_callB (cr_repr hg hr hs) (by rfl) T.z_repr (by decide +kernel) (pa_cons (pe_prp G_Plan_checks (hr.mono (by decide)) (pv 0)) pa_nil)) (pe_callB (cr_repr hg hr hs) (by rfl) T.z_repr (by decide +kernel) (pa_cons (pe_ix ix_tup (pv 1) pe_int (fun _ _ => rfl)) pa_nil)) (nomark _)))))), ?_⟩
    obtain ⟨dx, c0, k0, h0, hins, _⟩ := id PA
    obtain ⟨c, ks, ch, ht, hc, hk, hh⟩ := DA
    obtain ⟨sc1, sc2, sc3⟩ := (shw_cols B.nm B.cl).fits (by decide) (by decide)
    obtain ⟨sk1, sk2, sk3⟩ := (shw_kinds B.k B.kl).fits (by decide) (by decide)
    obtain ⟨sh1, sh2, sh3⟩ := (shw_chk B.h B.hl).fits (by decide) (by decide)
    have hl := B.hl
    have kl := B.kl
    have krl : ∀ k ∈ kds, k.rows.length ≤ 40 := fun k hk => (B.k k hk).rl
    refine ⟨_, rfl, rfl, _, rfl, ?_⟩
    refine ite2 (fun ct => ?_) (fun ct => ?_)
    · refine ⟨_, rfl, p, dx, _, rfl, sF _ _ hins, F, p, cols, kds, chk, rfl, sF, PA, hl, fun q1 H1 rs1 hq1 s1 nr1 => ?_⟩
      have f1 := sF.trans s1
      refine ⟨_, _, grow F H H1, rfl, (gr_grow sF s1).sub, nr1.R hq1, sh1, sh2, sh3, _, rfl, _, _, _, _, rfl, rfl, SqT.of (f1 _ _ ht), rfl, _, _, F, rfl, f1, hh, sh1, sh2, sh3, rfl, _, rfl, ?_⟩
      refine ite2 (fun c => absurd c (by simp)) (fun _ => ?_)
      refine ⟨_, rfl, p, dx, _, rfl, f1 _ _ hins, F, p, cols, kds, chk, rfl, f1, PA, fun q2 H2 hq2 s2 hv2 => ?_⟩
      have f2 := (f1).trans s2
      refine ⟨_, _, H2, rfl, Same.refl _, R_dStrs.mpr ⟨q2, rfl, hv2⟩, sc1, sc2, sc3, _, rfl, _, _, _, _, rfl, rfl, SqT.of (f2 _ _ ht), rfl, _, _, F, rfl, f2, hc, sc1, sc2, sc3, rfl, _, rfl, ?_⟩
      refine ite2 (fun c => absurd c (by simp)) (fun _ => ?_)
      refine ⟨_, rfl, p, dx, _, rfl, f2 _ _ hins, F, p, cols, kds, chk, rfl, f2, PA, by omega, krl, fun q3 H3 kas3 hq3 s3 nk3 => ?_⟩
      have f3 := f2.trans s3
      refine ⟨_, _, grow F H2 H3, rfl, (gr_grow f2 s3).sub, nk3.R hq3 f2 s3, sk1, sk2, sk3, _, rfl, _, _, _, _, rfl, rfl, SqT.of (f3 _ _ ht), rfl, _, _, F, rfl, f3, hk, sk1, sk2, sk3, rfl, _, rfl, ?_⟩
      refine ite2 (fun c => absurd c (by simp)) (fun _ => ?_)
      refine ⟨_, rfl, p, dx, _, rfl, f3 _ _ hins, F, p, cols, kds, chk, rfl, f3, PA, hl, fun q4 H4 rs4 hq4 s4 nr4 => ?_⟩
      have f4 := f3.trans s4
      refine ⟨_, _, grow F H3 H4, rfl, (gr_grow f3 s4).sub, nr4.R hq4, sh1, sh2, sh3, _, rfl, _, _, _, _, rfl, rfl, SqT.of (f4 _ _ ht), rfl, _, _, F, rfl, f4, hh, sh1, sh2, sh3, rfl, ?_⟩
      have qq := q H4 ((s1).trans (s2.trans (s3.trans s4)))
      simpa using qq
    · refine ⟨_, rfl, p, dx, _, rfl, sF _ _ hins, F, p, cols, kds, chk, rfl, sF, PA, fun q2 H2 hq2 s2 hv2 => ?_⟩
      have f2 := (sF).trans s2
      refine ⟨_, _, H2, rfl, Same.refl _, R_dStrs.mpr ⟨q2, rfl, hv2⟩, sc1, sc2, sc3, _, rfl, _, _, _, _, rfl, rfl, SqT.of (f2 _ _ ht), rfl, _, _, F, rfl, f2, hc, sc1, sc2, sc3, rfl, _, rfl, ?_⟩
      refine ite2 (fun c => absurd c (by simp)) (fun _ => ?_)
      refine ⟨_, rfl, p, dx, _, rfl, f2 _ _ hins, F, p, cols, kds, chk, rfl, f2, PA, by omega, krl, fun q3 H3 kas3 hq3 s3 nk3 => ?_⟩
      have f3 := f2.trans s3
      refine ⟨_, _, grow F H2 H3, rfl, (gr_grow f2 s3).sub, nk3.R hq3 f2 s3, sk1, sk2, sk3, _, rfl, _, _, _, _, rfl, rfl, SqT.of (f3 _ _ ht), rfl, _, _, F, rfl, f3, hk, sk1, sk2, sk3, rfl, _, rfl, ?_⟩
      refine ite2 (fun c => absurd c (by simp)) (fun _ => ?_)
      refine ⟨_, rfl, p, dx, _, rfl, f3 _ _ hins, F, p, cols, kds, chk, rfl, f3, PA, hl, fun q4 H4 rs4 hq4 s4 nr4 => ?_⟩
      have f4 := f3.trans s4
      refine ⟨_, _, grow F H3 H4, rfl, (gr_grow f3 s4).sub, nr4.R hq4, sh1, sh2, sh3, _, rfl, _, _, _, _, rfl, rfl, SqT.of (f4 _ _ ht), rfl, _, _, F, rfl, f4, hh, sh1, sh2, sh3, rfl, ?_⟩
      have qq := q H4 ((Same.refl H).trans (s2.trans (s3.trans s4)))
      simpa using qq
end
end Pz
namespace Pz
open PySem L2
open PyProof.Rows (envOfC)
/-! ### what is handed, as data -/
def dKindS (k : KD) : PyData := .tuple [.str k.name, .list (k.sums.map dSum), .list (k.steps.map dStep)]
def dHanded (cols : List Str) (kds : List KD) (chs : List (List (Str × Int))) : PyData := .tuple [dStrs cols, .list (kds.map dKindS), .list (chs.map dSum)]
theorem R_tup3 {F : Hp} {x y z : PyData} {v : V} : R F (.tuple [x, y, z]) v ↔ ∃ t a b c, v = .ref t ∧ F t = some (.tup [a, b, c]) ∧ R F x a ∧ R F y b ∧ R F z c := by
  simp only [R, RA]
  constructor
  · rintro ⟨t, xs, rfl, h, a, r, rfl, h1, b, r2, rfl, h2, c, r3, rfl, h3, rfl⟩
    exact ⟨t, a, b, c, rfl, h, h1, h2, h3⟩
  · rintro ⟨t, a, b, c, rfl, h, h1, h2, h3⟩
    exact ⟨t, _, rfl, h, a, _, rfl, h1, b, _, rfl, h2, c, _, rfl, h3, rfl⟩
theorem Han.R {G F H : Hp} {th : Addr} {cols : List Str} {kds : List KD} {chs : List (List (Str × Int))} {hc hk hh : Addr} {kas : List KB} (h : Han G F H th cols kds chs hc hk hh kas) (sG : Same G H) (sF : Same F H) : R H (dHanded cols kds chs) (.ref th) := by
  refine R_tup3.mpr ⟨th, _, _, _, rfl, sF _ _ h.top, R_dStrs.mpr ⟨hc, rfl, sF _ _ h.c_⟩, R_list.mpr ⟨hk, _, rfl, sF _ _ h.k_, RA_of (by simp [h.len]) ?_⟩, ?_⟩
  · intro i d x e1 e2
    rw [List.getElem?_map] at e1 e2
    obtain ⟨k, e3, rfl⟩ := Option.map_eq_some_iff.mp e1
    obtain ⟨a, e4, rfl⟩ := Option.map_eq_some_iff.mp e2
    obtain ⟨h1, ⟨ys, h2, h3⟩, ⟨zs, h4, h5⟩, _⟩ := h.ct i a k e4 e3
    exact R_tup3.mpr ⟨a.1, _, _, _, rfl, sF _ _ h1, rfl, R_list.mpr ⟨_, ys, rfl, h2, RA.mono sF _ _ h3⟩, R_list.mpr ⟨_, zs, rfl, sF _ _ h4, RA.mono sG _ _ h5⟩⟩
  · obtain ⟨ys, h2, h3⟩ := h.h_
    exact R_list.mpr ⟨_, ys, rfl, h2, RA.mono sF _ _ h3⟩
theorem Han.ks {G F H : Hp} {th : Addr} {cols : List Str} {kds : List KD} {chs : List (List (Str × Int))} {hc hk hh : Addr} {kas : List KB} (h : Han G F H th cols kds chs hc hk hh kas) (sF : Same F H) : HKs G H kds (kas.map fun a => V.ref a.1) := by
  refine ⟨by simp [h.len], fun i k x e1 e2 => ?_⟩
  rw [List.getElem?_map] at e2
  obtain ⟨a, e4, rfl⟩ := Option.map_eq_some_iff.mp e2
  obtain ⟨h1, ⟨ys, h2, h3⟩, ⟨zs, h4, h5⟩, _⟩ := h.ct i a k e4 e1
  exact ⟨a.1, _, _, zs, rfl, sF _ _ h1, R_list.mpr ⟨_, ys, rfl, h2, RA.mono sF _ _ h3⟩, sF _ _ h4, h5⟩
/-- a sum within the bounds -/
structure TOk (cols : List Str) (tb : List (Str × Int)) : Prop where
  len : tb.length ≤ 20
  key : ∀ p ∈ tb, p.1 ∈ cols
  num : ∀ p ∈ tb, NumOk p.2
structure GK (cols : List Str) (m : Nat) (k : KD) : Prop where
  nm : isNm k.name = true
  ne : 0 < k.sums.length
  len : k.sums.length ≤ m
  rows : k.rows = k.sums.map fun tb => cols.map (look tb)
  rok : ∀ row ∈ k.rows, RowOk row
  sok : ∀ tb ∈ k.sums, TOk cols tb
  zero : k.rows[0]? = some (zeros cols)
  sl : k.steps.length ≤ 40
  stp : ∀ s ∈ k.steps, isNm s.1 = true ∧ 0 ≤ s.2.1 ∧ s.2.1 < k.sums.length ∧ 0 ≤ s.2.2 ∧ s.2.2 < k.sums.length
  snd : (k.steps.map fun s => (s.1, s.2.1)).Nodup
structure GB (cols : List Str) (kds : List KD) (chk : List (List Int)) (chs : List (List (Str × Int))) (m n : Nat) : Prop where
  c : GoodC cols
  k : ∀ k ∈ kds, GK cols m k
  nd : (kds.map (·.name)).Nodup
  kl : kds.length ≤ 8
  h : chk = chs.map fun tb => cols.map (look tb)
  hr : ∀ row ∈ chk, RowOk row
  hs : ∀ tb ∈ chs, TOk cols tb
  hl : chs.length ≤ n
theorem TOk.good {cols : List Str} {tb : List (Str × Int)} (h : TOk cols tb) : GoodS cols tb := ⟨by have := h.len; omega, h.key⟩
theorem GB.p {cols : List Str} {kds : List KD} {chk : List (List Int)} {chs : List (List (Str × Int))} {m n : Nat} (h : GB cols kds chk chs m n) (hm : m ≤ 40) (hn : n ≤ 40) : GoodP cols kds chs := by
  refine ⟨h.c, fun k hk => ?_, h.nd, Nat.le_trans h.kl (by decide), fun tb ht => (h.hs tb ht).good, Nat.le_trans h.hl hn⟩
  have g := h.k k hk
  exact ⟨g.nm, g.ne, Nat.le_trans g.len hm, fun tb ht => (g.sok tb ht).good, g.rows, g.zero, g.sl, g.stp, g.snd⟩
theorem GB.b {cols : List Str} {kds : List KD} {chk : List (List Int)} {chs : List (List (Str × Int))} {m n : Nat} (h : GB cols kds chk chs m n) (hm : m ≤ 40) (hn : n ≤ 40) : BD cols kds chk := by
  refine ⟨h.c.nm, h.c.len, fun k hk => ?_, Nat.le_trans h.kl (by decide), h.hr, by rw [h.h, List.length_map]; exact Nat.le_trans h.hl hn⟩
  have g := h.k k hk
  refine ⟨g.nm, by rw [g.rows, List.length_map]; exact Nat.le_trans g.len hm, g.rok, g.sl, fun s hs => ?_⟩
  obtain ⟨a, b, c, d, e⟩ := g.stp s hs
  have := g.len
  exact ⟨a, num_small b (by omega), num_small d (by omega)⟩
theorem ext_map {α β : Type} (f : α → β) (l : List α) : ext (l.map f) = (ext l).map f := by
  cases e : l.getLast? with
  | some x => rw [ext_some (last_map f e), ext_some e, List.map_append]; rfl
  | none =>
    rw [List.getLast?_eq_none_iff] at e
    subst e; rfl
theorem ext_mem {α : Type} {l : List α} {x : α} (h : x ∈ ext l) : x ∈ l := by
  cases e : l.getLast? with
  | some y =>
    rw [ext_some e] at h
    rcases List.mem_append.mp h with h | h
    · exact h
    · rw [List.mem_singleton.mp h]
      obtain ⟨ys, rfl⟩ := List.getLast?_eq_some_iff.mp e
      exact List.mem_append_right _ List.mem_cons_self
  | none => unfold ext at h; rw [e] at h; simpa using h
theorem ext_len {α : Type} {l : List α} {m : Nat} (h : l.length ≤ m) : l.length ≤ (ext l).length ∧ (ext l).length ≤ m + 1 := by
  unfold ext
  rw [List.length_append]
  cases l.getLast? with
  | some x => simp; omega
  | none => simp; omega
def extB (k : KD) : KD := { k with rows := ext k.rows, sums := ext k.sums }
theorem GB.ext {cols : List Str} {kds : List KD} {chk : List (List Int)} {chs : List (List (Str × Int))} {m n : Nat} (h : GB cols kds chk chs m n) : GB cols (kds.map extB) (ext chk) (ext chs) (m + 1) (n + 1) := by
  refine ⟨h.c, fun k hk => ?_, by rw [List.map_map]; exact h.nd, by rw [List.length_map]; exact h.kl, by rw [h.h, ext_map], fun row hr => h.hr row (ext_mem hr), fun tb ht => h.hs tb (ext_mem ht), (ext_len h.hl).2⟩
  obtain ⟨k0, hk0, rfl⟩ := List.mem_map.mp hk
  have g := h.k k0 hk0
  have el := ext_len g.len
  refine ⟨g.nm, Nat.lt_of_lt_of_le g.ne el.1, el.2, ?_, fun row hr => g.rok row (ext_mem hr), fun tb ht => g.sok tb (ext_mem ht), ?_, g.sl, fun s hs => ?_, g.snd⟩
  · show Pz.ext k0.rows = (Pz.ext k0.sums).map _
    rw [g.rows, ext_map]
  · show (Pz.ext k0.rows)[0]? = _
    unfold Pz.ext
    rw [List.getElem?_append_left (List.getElem?_eq_some_iff.mp g.zero).1]
    exact g.zero
  · obtain ⟨a, b, c, d, e⟩ := g.stp s hs
    have e1 := el.1
    refine ⟨a, b, ?_, d, ?_⟩
    · show s.2.1 < ((Pz.ext k0.sums).length : Int)
      omega
    · show s.2.2 < ((Pz.ext k0.sums).length : Int)
      omega
theorem shw_sum {cols : List Str} {tb : List (Str × Int)} (h : TOk cols tb) (hc : ∀ c ∈ cols, isNm c = true) : Shw 360 1 (dSum tb) :=
  shw_dict (m := 8) (n := 0) (l := 20) (fun d hd => by
    obtain ⟨p, hp, rfl⟩ := List.mem_map.mp hd
    exact ⟨shw_name (hc _ (h.key p hp)), (shw_int (h.num p hp)).mono (by decide) (Nat.le_refl _)⟩) (by rw [List.length_map]; exact h.len)
theorem GB.shw {cols : List Str} {kds : List KD} {chk : List (List Int)} {chs : List (List (Str × Int))} {m n : Nat} (h : GB cols kds chk chs m n) (hm : m ≤ 40) (hn : n ≤ 40) : Shw 150000 5 (dHanded cols kds chs) := by
  have sums : ∀ (tbs : List (List (Str × Int))), (∀ tb ∈ tbs, TOk cols tb) → tbs.length ≤ 40 → Shw 14440 2 (.list (tbs.map dSum)) := fun tbs ht hl =>
    shw_list (m := 360) (n := 1) (l := 40) (fun d hd => by obtain ⟨tb, htb, rfl⟩ := List.mem_map.mp hd; exact shw_sum (ht tb htb) h.c.nm) (by rw [List.length_map]; exact hl)
  have ks : Shw 119456 4 (.list (kds.map dKindS)) := (shw_list (m := 14931) (n := 3) (l := 8) (fun d hd => by
    obtain ⟨k, hk, rfl⟩ := List.mem_map.mp hd
    have g := h.k k hk
    refine (shw_tup3 ((shw_name g.nm).mono (Nat.le_refl _) (by decide)) (sums _ g.sok (Nat.le_trans g.len hm)) (shw_steps g.sl fun s hs => ?_)).mono (by decide) (Nat.le_refl _)
    obtain ⟨a, b, c, d, e⟩ := g.stp s hs
    have := g.len
    exact ⟨a, num_small b (by omega), num_small d (by omega)⟩) (by rw [List.length_map]; exact h.kl)).mono (by decide) (Nat.le_refl _)
  exact (shw_tup3 ((shw_cols h.c.nm h.c.len).mono (Nat.le_refl _) (by decide)) ks ((sums _ h.hs (Nat.le_trans h.hl hn)).mono (Nat.le_refl _) (by decide))).mono (by decide) (Nat.le_refl _)
theorem GB.of {cols : List Str} {kds kds' : List KD} {chk : List (List Int)} {chs : List (List (Str × Int))} (g : GoodD cols kds chk) (kl : kds'.length = kds.length) (ws : ∀ (j : Nat) k k', kds[j]? = some k → kds'[j]? = some k' → WithS cols k k')
    (cl : chs.length = chk.length) (hv : ∀ (j : Nat) row tb, chk[j]? = some row → chs[j]? = some tb → SumOf cols row tb) : GB cols kds' chk chs 38 8 := by
  have num : ∀ {x : Int}, Nm x → NumOk x := fun {x} h => by
    have e1 : (10 : Int) ^ 14 = 100000000000000 := by decide
    have e2 : (10 : Int) ^ 13 = 10000000000000 := by decide
    unfold Nm at h
    unfold NumOk
    omega
  have tok : ∀ {row : List Int} {tb : List (Str × Int)}, GoodRow cols row → SumOf cols row tb → TOk cols tb := fun h s => ⟨Nat.le_trans s.len g.c.len, s.key, fun p hp => num (h.2 _ (s.num p hp))⟩
  have rok : ∀ {row : List Int}, GoodRow cols row → RowOk row := fun h => ⟨by rw [h.1]; exact g.c.len, fun x hx => num (h.2 x hx)⟩
  have vals : ∀ {rows : List (List Int)} {tbs : List (List (Str × Int))}, tbs.length = rows.length → (∀ (j : Nat) row tb, rows[j]? = some row → tbs[j]? = some tb → SumOf cols row tb) → rows = tbs.map fun tb => cols.map (look tb) := fun {rows tbs} l h => by
    apply List.ext_getElem?
    intro j
    rw [List.getElem?_map]
    cases e : tbs[j]? with
    | none =>
      have := List.getElem?_eq_none_iff.mp e
      rw [List.getElem?_eq_none (by omega)]; rfl
    | some tb =>
      obtain ⟨row, er⟩ := at_len l e
      rw [er]
      exact congrArg some (h j row tb er e).val.symm
  refine ⟨g.c, fun k' hk' => ?_, ?_, by rw [kl]; exact g.len, vals cl hv, fun row hr => rok (g.h row hr), fun tb ht => ?_, by rw [cl]; exact g.hlen⟩
  · obtain ⟨j, hj, ej⟩ := List.mem_iff_getElem.mp hk'
    have e1 : kds'[j]? = some k' := by rw [List.getElem?_eq_getElem hj, ej]
    obtain ⟨k, e2⟩ := at_len kl e1
    have gk := g.k k (List.mem_of_getElem? e2)
    have s := ws j k k' e2 e1
    have sl := s.len
    refine ⟨by rw [s.nm]; exact gk.nm, by rw [sl]; exact gk.ne, by rw [sl]; exact gk.len, by rw [s.rows]; exact vals sl s.val, fun row hr => rok (gk.rows row (s.rows ▸ hr)), fun tb ht => ?_, by rw [s.rows]; exact gk.zero, by rw [s.steps]; exact Nat.le_trans gk.slen (by decide), ?_, by rw [s.steps]; exact gk.st.nd⟩
    · obtain ⟨i, hi, ei⟩ := List.mem_iff_getElem.mp ht
      have e3 : k'.sums[i]? = some tb := by rw [List.getElem?_eq_getElem hi, ei]
      obtain ⟨row, e4⟩ := at_len sl e3
      exact tok (gk.rows row (List.mem_of_getElem? e4)) (s.val i row tb e4 e3)
    · intro st hst
      rw [s.steps] at hst
      rw [sl]
      exact gk.st.stp st hst
  · have e : kds'.map (·.name) = kds.map (·.name) := by
      apply List.ext_getElem?
      intro j
      rw [List.getElem?_map, List.getElem?_map]
      cases e : kds'[j]? with
      | none =>
        have := List.getElem?_eq_none_iff.mp e
        rw [List.getElem?_eq_none (by omega)]
      | some k' =>
        obtain ⟨k, er⟩ := at_len kl e
        rw [er]
        exact congrArg some (ws j k k' er e).nm
    rw [e]; exact g.nd
  · obtain ⟨i, hi, ei⟩ := List.mem_iff_getElem.mp ht
    have e3 : chs[i]? = some tb := by rw [List.getElem?_eq_getElem hi, ei]
    obtain ⟨row, e4⟩ := at_len cl e3
    exact tok (g.h row (List.mem_of_getElem? e4)) (hv i row tb e4 e3)
end Pz
namespace Pz
open PySem L2
open PyProof.Rows (envOfC)
/-! ### _law_right -/
def cut (F : Hp) (L : List Addr) : Hp := fun b => if b ∈ L then none else F b
theorem cut_sub {F : Hp} {L : List Addr} : Same (cut F L) F := fun b o e => by
  unfold cut at e
  by_cases h : b ∈ L
  · rw [if_pos h] at e; cases e
  · rw [if_neg h] at e; exact e
theorem cut_at {F : Hp} {L : List Addr} {b : Addr} (h : b ∉ L) : cut F L b = F b := by unfold cut; rw [if_neg h]
theorem cut_in {F : Hp} {L : List Addr} {b : Addr} (h : b ∈ L) : cut F L b = none := by unfold cut; rw [if_pos h]
theorem HD.lists {G F : Hp} {cols : List Str} {kds : List KD} {chs : List (List (Str × Int))} {th hc hk hh : Addr} {kas : List KB} (h : HD G F cols kds chs th hc hk hh kas) : ∀ b ∈ hh :: kas.map (fun a => a.2.1), ∃ xs, F b = some (.lst xs) := by
  intro b hb
  rcases List.mem_cons.mp hb with rfl | hb
  · obtain ⟨_, xs, e, hx, _⟩ := R_list.mp h.h_
    cases e
    exact ⟨xs, hx⟩
  · obtain ⟨a, ha, rfl⟩ := List.mem_map.mp hb
    obtain ⟨j, hj, ej⟩ := List.mem_iff_getElem.mp ha
    have e1 : kas[j]? = some a := by rw [List.getElem?_eq_getElem hj, ej]
    obtain ⟨k, e2⟩ := at_len h.len e1
    obtain ⟨_, h2, _⟩ := h.ct j a k e1 e2
    obtain ⟨_, xs, e, hx, _⟩ := R_list.mp h2
    cases e
    exact ⟨xs, hx⟩
theorem cut_sums {F : Hp} {L : List Addr} (hL : ∀ b ∈ L, ∃ xs, F b = some (.lst xs)) {tbs : List (List (Str × Int))} {xs : List V} (h : RA F (tbs.map dSum) xs) : RA (cut F L) (tbs.map dSum) xs := by
  refine RA_of (RA.len h) fun i d x e1 e2 => ?_
  obtain ⟨y, ey, hy⟩ := RA.at h e1
  rw [e2] at ey
  cases ey
  rw [List.getElem?_map] at e1
  obtain ⟨tb, e3, rfl⟩ := Option.map_eq_some_iff.mp e1
  obtain ⟨a, rfl, ha⟩ := R_dSum.mp hy
  refine R_dSum.mpr ⟨a, rfl, ?_⟩
  rw [cut_at (fun hm => by obtain ⟨us, hu⟩ := hL a hm; rw [ha] at hu; cases hu)]
  exact ha
theorem HD.han {G F H : Hp} {cols : List Str} {kds : List KD} {chs : List (List (Str × Int))} {th hc hk hh : Addr} {kas : List KB} (h : HD G F cols kds chs th hc hk hh kas) (s : Same F H) : Han G (cut F (hh :: kas.map fun a => a.2.1)) H th cols kds chs hc hk hh kas := by
  have hL := h.lists
  have ntup : ∀ b xs, F b = some (.tup xs) → b ∉ hh :: kas.map (fun a => a.2.1) := fun b xs e hm => by
    obtain ⟨us, hu⟩ := hL b hm
    rw [e] at hu; cases hu
  refine ⟨?_, ?_, ?_, h.len, fun j a k e1 e2 => ?_, ?_, cut_in List.mem_cons_self⟩
  · rw [cut_at (ntup _ _ h.top)]; exact h.top
  · rw [cut_at (h.sep _ (.inl rfl))]; exact h.c_
  · rw [cut_at (h.sep _ (.inr (.inl rfl)))]; exact h.k_
  · obtain ⟨h1, h2, zs, h3, h4⟩ := h.ct j a k e1 e2
    have ha := List.mem_of_getElem? e1
    obtain ⟨_, us, eu, hu, hr⟩ := R_list.mp h2
    cases eu
    refine ⟨by rw [cut_at (ntup _ _ h1)]; exact h1, ⟨us, s _ _ hu, cut_sums hL hr⟩, ⟨zs, by rw [cut_at (h.sep _ (.inr (.inr ⟨a, ha, rfl⟩)))]; exact h3, h4⟩, cut_in (List.mem_cons_of_mem _ (List.mem_map.mpr ⟨a, ha, rfl⟩))⟩
  · obtain ⟨_, us, eu, hu, hr⟩ := R_list.mp h.h_
    cases eu
    exact ⟨us, s _ _ hu, cut_sums hL hr⟩
theorem Dat.congr {G H : Hp} {t0 : Addr} {cols : List Str} {kds kds' : List KD} {chk : List (List Int)} {c ks ch : Addr} {kas : List KB} (h : Dat G H t0 cols kds chk c ks ch kas) (l : kds'.length = kds.length)
    (e : ∀ (j : Nat) k k', kds[j]? = some k → kds'[j]? = some k' → k'.name = k.name ∧ k'.steps = k.steps ∧ k'.rows = k.rows) : Dat G H t0 cols kds' chk c ks ch kas := by
  refine ⟨h.top, h.c_, h.k_, by rw [l]; exact h.len, fun j a k' e1 e2 => ?_, h.ch_, h.fch⟩
  obtain ⟨k, e3⟩ := at_len l e2
  obtain ⟨a1, a2, a3⟩ := e j k k' e3 e2
  have c := h.ct j a k e1 e3
  unfold LKAt at c ⊢
  rw [a1, a2, a3]
  exact c
theorem Han.congr {G F H : Hp} {th : Addr} {cols : List Str} {kds kds' : List KD} {chs : List (List (Str × Int))} {hc hk hh : Addr} {kas : List KB} (h : Han G F H th cols kds chs hc hk hh kas) (l : kds'.length = kds.length)
    (e : ∀ (j : Nat) k k', kds[j]? = some k → kds'[j]? = some k' → k'.name = k.name ∧ k'.steps = k.steps ∧ k'.sums = k.sums) : Han G F H th cols kds' chs hc hk hh kas := by
  refine ⟨h.top, h.c_, h.k_, by rw [l]; exact h.len, fun j a k' e1 e2 => ?_, h.h_, h.fhh⟩
  obtain ⟨k, e3⟩ := at_len l e2
  obtain ⟨a1, a2, a3⟩ := e j k k' e3 e2
  have c := h.ct j a k e1 e3
  unfold HKn at c ⊢
  rw [a1, a2, a3]
  exact c
theorem Dat.at_ {G H F : Hp} {t0 : Addr} {cols : List Str} {kds : List KD} {chk : List (List Int)} {c ks ch : Addr} {kas : List KB} (h : Dat G H t0 cols kds chk c ks ch kas) (s : Same G F) (e : ∀ b ∈ ch :: kas.map (fun a => a.2.1), ∀ o, H b = some o → F b = some o) : DatAt F t0 cols kds chk := by
  refine ⟨c, ks, ch, s _ _ h.top, R_dStrs.mpr ⟨c, rfl, s _ _ h.c_⟩, R_list.mpr ⟨ks, _, rfl, s _ _ h.k_, RA_of (by simp [h.len]) ?_⟩, ?_⟩
  · intro i d x e1 e2
    rw [List.getElem?_map] at e1 e2
    obtain ⟨k, e3, rfl⟩ := Option.map_eq_some_iff.mp e1
    obtain ⟨a, e4, rfl⟩ := Option.map_eq_some_iff.mp e2
    obtain ⟨h1, ⟨ys, h2, h3⟩, h4, _⟩ := h.ct i a k e4 e3
    exact R_tup3.mpr ⟨a.1, _, _, _, rfl, s _ _ h1, rfl, R_list.mpr ⟨_, ys, rfl, e _ (List.mem_cons_of_mem _ (List.mem_map.mpr ⟨a, List.mem_of_getElem? e4, rfl⟩)) _ h2, RA.mono s _ _ h3⟩, R.mono s _ _ h4⟩
  · obtain ⟨ys, h2, h3⟩ := h.ch_
    exact R_list.mpr ⟨_, ys, rfl, e _ List.mem_cons_self _ h2, RA.mono s _ _ h3⟩
/-- the owner's part of the heap -/
def own (F H : Hp) : Hp := fun b => if F b = none then none else H b
theorem own_sub {F H : Hp} : Same (own F H) H := fun b o e => by
  unfold own at e
  by_cases h : F b = none
  · rw [if_pos h] at e; cases e
  · rw [if_neg h] at e; exact e
theorem own_at {F H : Hp} {b : Addr} (h : F b ≠ none) : own F H b = H b := by unfold own; rw [if_neg h]
theorem own_none {F H : Hp} {b : Addr} (h : F b = none) : own F H b = none := by unfold own; rw [if_pos h]
theorem Han.shape {G F F2 H : Hp} {th : Addr} {cols : List Str} {kds : List KD} {chs : List (List (Str × Int))} {hc hk hh : Addr} {kas : List KB} (h : Han G F H th cols kds chs hc hk hh kas) (sG : Same G H) (sF : Same F H) (dom : ∀ b, F b ≠ none → F2 b ≠ none)
    (live : ∀ b ∈ hh :: kas.map (fun a => a.2.1), F2 b ≠ none) (cl : cols.length ≤ 100) (kl : kds.length ≤ 20) (sl : ∀ k ∈ kds, k.sums.length ≤ 100) (hl : chs.length ≤ 100) :
    ∃ hs, HShape (own F2 H) th hc hk hh (cols.map V.str) hs kas := by
  have at_ : ∀ b o, F b = some o → own F2 H b = some o := fun b o e => by rw [own_at (dom b (some_ne e))]; exact sF _ _ e
  have ds : ∀ {tbs : List (List (Str × Int))} {xs : List V}, RA F (tbs.map dSum) xs → Ds (own F2 H) xs := fun {tbs xs} hr y hy => by
    obtain ⟨i, hi, ei⟩ := List.mem_iff_getElem.mp hy
    obtain ⟨d, ed, hd⟩ := RA.at' hr (show xs[i]? = some y by rw [List.getElem?_eq_getElem hi, ei])
    rw [List.getElem?_map] at ed
    obtain ⟨tb, _, rfl⟩ := Option.map_eq_some_iff.mp ed
    obtain ⟨a, rfl, ha⟩ := R_dSum.mp hd
    exact ⟨a, _, rfl, at_ _ _ ha⟩
  obtain ⟨hs, hh1, hh2⟩ := h.h_
  have hl2 := RA.len hh2
  rw [List.length_map] at hl2
  refine ⟨hs, at_ _ _ h.top, at_ _ _ h.c_, by rw [List.length_map]; exact cl, at_ _ _ h.k_, by rw [h.len]; exact kl, fun a ha => ?_, by rw [own_at (live _ List.mem_cons_self)]; exact hh1, by omega, ds hh2⟩
  obtain ⟨j, hj, ej⟩ := List.mem_iff_getElem.mp ha
  have e1 : kas[j]? = some a := by rw [List.getElem?_eq_getElem hj, ej]
  obtain ⟨k, e2⟩ := at_len h.len e1
  obtain ⟨h1, ⟨ys, h2, h3⟩, ⟨zs, h4, h5⟩, h6⟩ := h.ct j a k e1 e2
  have yl := RA.len h3
  rw [List.length_map] at yl
  have := sl k (List.mem_of_getElem? e2)
  refine ⟨⟨k.name, at_ _ _ h1⟩, ⟨ys, by rw [own_at (live _ (List.mem_cons_of_mem _ (List.mem_map.mpr ⟨a, ha, rfl⟩)))]; exact h2, by omega, ds h3⟩, ⟨zs, at_ _ _ h4⟩, (fun z => by rw [z, h.k_] at h6; cases h6), fun z => ?_⟩
  rw [z, h.k_] at h4
  cases h4
  obtain ⟨d, ed, hd⟩ := RA.at' h5 (show (kas.map fun a => V.ref a.1)[j]? = some (.ref a.1) by rw [List.getElem?_map, e1]; rfl)
  rw [List.getElem?_map] at ed
  obtain ⟨st, _, rfl⟩ := Option.map_eq_some_iff.mp ed
  obtain ⟨b, eb, hb⟩ := R_dStep.mp hd
  cases eb
  have q1 := sG _ _ hb
  have q2 := sF _ _ h1
  rw [q1] at q2
  simp at q2
end Pz
namespace Pz
open PySem L2
open PyProof.Rows (envOfC)
/-! ### _law_plan -/
theorem HShape.col {F : Hp} {th hc hk hh : Addr} {cs hs cs' : List V} {kas : List KB} (h : HShape F th hc hk hh cs hs kas) (n1 : hc ≠ hk) (n2 : hc ≠ hh) (n3 : ∀ a ∈ kas, hc ≠ a.2.1) (l : cs'.length ≤ 100) : HShape (upd F hc (.lst cs')) th hc hk hh cs' hs kas := by
  have tu : ∀ b xs, F b = some (.tup xs) → (upd F hc (.lst cs')) b = some (.tup xs) := fun b xs e => by
    rw [upd_ne (fun z => by rw [z, h.c_] at e; cases e)]; exact e
  have di : ∀ b xs, F b = some (.dK xs) → (upd F hc (.lst cs')) b = some (.dK xs) := fun b xs e => by
    rw [upd_ne (fun z => by rw [z, h.c_] at e; cases e)]; exact e
  have ds : ∀ {xs : List V}, Ds F xs → Ds (upd F hc (.lst cs')) xs := fun d y hy => by
    obtain ⟨b, kvs, e1, e2⟩ := d y hy
    exact ⟨b, kvs, e1, di _ _ e2⟩
  refine ⟨tu _ _ h.top, upd_same, l, by rw [upd_ne (Ne.symm n1)]; exact h.k_, h.kl, fun a ha => ?_, by rw [upd_ne (Ne.symm n2)]; exact h.h_, h.hl, ds h.hd⟩
  obtain ⟨⟨nm, h1⟩, ⟨ys, h2, h3, h4⟩, ⟨zs, h5⟩, h6, h7⟩ := h.ct a ha
  refine ⟨⟨nm, tu _ _ h1⟩, ⟨ys, by rw [upd_ne (Ne.symm (n3 a ha))]; exact h2, h3, ds h4⟩, ?_, h6, h7⟩
  by_cases z : a.2.2 = hc
  · exact ⟨cs', by rw [z]; exact upd_same⟩
  · exact ⟨zs, by rw [upd_ne z]; exact h5⟩
theorem DatAt.din {F H : Hp} {w t0 : Addr} {cols : List Str} {kds : List KD} {chk : List (List Int)} (h : DatAt F t0 cols kds chk) (s : Same F H) (fw : F w = none) : DIn F H w t0 cols kds chk := by
  obtain ⟨c, ks, ch, ht, hc, hk, hh⟩ := h
  obtain ⟨_, ec, hc'⟩ := R_dStrs.mp hc
  cases ec
  obtain ⟨_, xs, ek, hk1, hk2⟩ := R_list.mp hk
  cases ek
  obtain ⟨_, ys, eh, hh1, hh2⟩ := R_list.mp hh
  cases eh
  have nw : ∀ b o, F b = some o → b ≠ w := fun b o e z => by rw [z, fw] at e; cases e
  have ex : ∀ x ∈ xs.zip kds, ∃ a : KB, x.1 = .ref a.1 ∧ LKw F H x.2 a ∧ a.2.1 ≠ w := fun x hx => by
    obtain ⟨i, hi, ei⟩ := List.mem_iff_getElem.mp hx
    have e0 : (xs.zip kds)[i]? = some x := by rw [List.getElem?_eq_getElem hi, ei]
    rw [List.getElem?_zip_eq_some] at e0
    obtain ⟨y, ey, hy⟩ := RA.at hk2 (show (kds.map dKind)[i]? = some (dKind x.2) by rw [List.getElem?_map, e0.2]; rfl)
    rw [e0.1] at ey
    cases ey
    obtain ⟨t, st, sp, e1, e2, e3, e4⟩ := R_dKind.mp hy
    obtain ⟨b, zs, eb, hb1, hb2⟩ := R_list.mp e3
    subst eb
    obtain ⟨b2, zs2, eb2, hb3, hb4⟩ := R_list.mp e4
    subst eb2
    exact ⟨(t, b, b2), e1, ⟨e2, ⟨zs, s _ _ hb1, hb2⟩, R_list.mpr ⟨b2, zs2, rfl, hb3, hb4⟩⟩, nw _ _ hb1⟩
  obtain ⟨kas, l1, l2⟩ := exists_list ex
  have xl := RA.len hk2
  rw [List.length_map] at xl
  have zl : (xs.zip kds).length = kds.length := by rw [List.length_zip]; omega
  have exs : xs = kas.map fun a => V.ref a.1 := by
    apply List.ext_getElem?
    intro i
    rw [List.getElem?_map]
    cases e : kas[i]? with
    | none =>
      have := List.getElem?_eq_none_iff.mp e
      rw [List.getElem?_eq_none (by omega)]; rfl
    | some a =>
      obtain ⟨x, ex2⟩ := at_len l1 e
      have e0 := ex2
      rw [List.getElem?_zip_eq_some] at e0
      rw [e0.1, (l2 i x a ex2 e).1]; rfl
  refine ⟨c, ks, ch, kas, ys, ht, hc', by rw [← exs]; exact hk1, by omega, fun j a k e1 e2 => ?_, s _ _ hh1, hh2, nw _ _ hh1⟩
  obtain ⟨x, ex2⟩ := at_len l1 e1
  have e0 := ex2
  rw [List.getElem?_zip_eq_some] at e0
  rw [e2] at e0
  have := (l2 j x a ex2 e1).2
  cases e0.2
  exact this
def spPlanOf (C : Addr) : Sp := fun vs H Q _ => ∃ (w t0 : Addr) (cols : List Str) (kds : List KD) (chk : List (List Int)) (N : Nat), vs = [.ref w, .ref t0] ∧ Wl H w N ∧ N ≤ 900000 ∧ DatAt (hid w H) t0 cols kds chk ∧ GoodD cols kds chk ∧
  ∀ (p : Addr) (H' : Hp), Sm w H H' → Wl H' w (N + 1000) → PlanAt C (hid w H') p cols kds chk → H p = none → Q (.ref p) H'
section
variable {P : Program} {w : World} {K : PySem.W.Frag} {mg : Str → Option Value} {base : Heap} {C : Addr}
theorem ok_law_plan (TT : Txt2 K mg) (L : PlanT K mg C) : Fn P w K mg base 7 "_law_plan" ["well", "data"] (spPlanOf C) := by
  have T := TT.t
  have G_law_handed := ok_law_handed (P := P) (w := w) (base := base) T
  have G_Planinit := ok_Plan_init (P := P) (w := w) (base := base) T L
  refine TT.d_law_plan.fn sc_law_plan (fun vs H Q E h => ?_) (fun cdv A outer f s H vs Q E hr h => ?_)
  · obtain ⟨_, _, _, _, _, _, rfl, _⟩ := h; rfl
  · obtain ⟨w, t0, cols, kds, chk, N, rfl, hw, hN, DA, good, q⟩ := h
    refine ⟨_, (pss_cons (ps_asg (pe_fn G_law_handed (hr.mono (by decide)) (by rfl) (pa_cons (pv 0) (pa_cons (pv 1) pa_nil))) (pg_tup (by rfl) (pgs_cons (pg_name (i := 2) sc_law_plan.nd rfl (Or.inl rfl)) (pgs_cons (pg_name (i := 3) sc_law_plan.nd rfl (Or.inl rfl)) (pgs_cons (pg_name (i := 4) sc_law_plan.nd rfl (Or.inl rfl)) pgs_nil))))) (pss_cons (ps_set (i := 5) sc_law_plan.nd rfl (Or.inl rfl) (pe_mk G_Planinit (hr.mono (by decide)) (by rfl) (pa_cons (pv 2) (pa_cons (pv 3) (pa_cons (pv 4) pa_nil))))) (pss_cons (ps_expr (pe_bm PySem.F.plainAttrs_list PySem.F.slot_list_append PySem.F.type_list_append mt_append (pv 2) (pa_cons pe_str pa_nil))) (pss_cons (ps_for PassesOwn.never rfl (pi_list (pv 3)) (pg_tup (by rfl) (pgs_cons (pg_name (i := 6) sc_law_plan.nd rfl (Or.inl rfl)) (pgs_cons (pg_name (i := 7) sc_law_plan.nd rfl (Or.inl rfl)) (pgs_cons (pg_name (i := 8) sc_law_plan.nd rfl (Or.inl rfl)) pgs_nil)))) (pss_cons (ps_for PassesOwn.never rfl (pi_list (pv 7)) (pg_name (i := 9) sc_law_plan.nd rfl (Or.inl rfl)) (pss_one (ps_expr (pe_dclear (pv 9))))) (pss_cons (ps_expr (pe_bm PySem.F.plainAttrs_list PySem.F.slot_list_append PySem.F.type_list_append mt_append (pv 7) (pa_cons pe_dnewK pa_nil))) (pss_one (ps_expr (pe_bm0 PySem.F.plainAttrs_list PySem.F.slot_list_clear PySem.F.type_list_clear mt_clear (pv 8))))))) (pss_cons (ps_for PassesOwn.never rfl (pi_list (pv 4)) (pg_name (i := 10) sc_law_plan.nd rfl (Or.inl rfl)) (pss_one (ps_expr (pe_dclear (pv 10))))) (pss_cons (ps_expr (pe_bm0 PySem.F.plainAttrs_list PySem.F.slot_list_clear PySem.F.type_list_clear mt_clear (pv 3))) (pss_cons (ps_expr (pe_bm PySem.F.plainAttrs_list PySem.F.slot_list_append PySem.F.type_list_append mt_append (pv 4) (pa_cons pe_dnewK pa_nil))) (pss_one (ps_ret (pv 5)))))))))), ?_⟩
    refine ⟨_, rfl, _, rfl, w, t0, cols, kds, chk, N, hid w H, (by rfl), hid_sub, hid_at, DA.din hid_sub hid_at, good, hw, by omega, fun th hc hk hh kds' chs kas' H4 F4 kl ws cl hv s4 w4 g4 hd => ?_⟩
    refine ⟨th, _, rfl, SqT.of (g4.sub _ _ hd.top), rfl, _, _, rfl, _, _, rfl, _, _, rfl, rfl, ?_⟩
    have newF : ∀ b, F4 b ≠ none → H b = none := fun b hb => (g4.new b hb).elim (fun z => absurd rfl z) id
    have fw : F4 w = none := g4.out rfl hw.ne
    have gb := GB.of good kl ws cl hv
    have sG : Same (hid w H) H4 := fun b o e => s4 b o (fun z => by rw [z, hid_at] at e; cases e) (hid_sub b o e)
    have Hn := hd.han g4.sub
    have sFc : Same (cut F4 (hh :: kas'.map fun a => a.2.1)) H4 := cut_sub.trans g4.sub
    refine ⟨_, rfl, _, rfl, _, rfl, fun p dx hp hdx npd => ?_⟩
    refine ⟨H4, p, dx, hc, hk, hh, cols, kds', chs, hid w H, kas'.map (fun a => V.ref a.1), (by rfl), rfl, hp, hdx, npd, g4.sub _ _ hd.c_, g4.sub _ _ hd.k_, Hn.ks sFc, R.mono g4.sub _ _ hd.h_, sG, gb.p (by decide) (by decide), fun H7 Fp s7 g7 pa => ⟨rfl, ?_⟩⟩
    have hcellF : ∀ b ∈ hh :: kas'.map (fun a => a.2.1), F4 b ≠ none := fun b hb => by
      obtain ⟨xs, hx⟩ := hd.lists b hb
      exact some_ne hx
    obtain ⟨hs', shp0⟩ := Hn.shape (F2 := F4) sG sFc (fun b hb z => hb (same_none cut_sub z)) hcellF (Nat.le_trans gb.c.len (by decide)) (Nat.le_trans gb.kl (by decide)) (fun k hk => Nat.le_trans (gb.k k hk).len (by decide)) (Nat.le_trans gb.hl (by decide))
    have hcF : F4 hc ≠ none := some_ne hd.c_
    have n2 : hc ≠ hh := fun z => hd.sep hc (.inl rfl) (by rw [z]; exact List.mem_cons_self)
    have n3 : ∀ a ∈ kas', hc ≠ a.2.1 := fun a ha z => hd.sep hc (.inl rfl) (by rw [z]; exact List.mem_cons_of_mem _ (List.mem_map.mpr ⟨a, ha, rfl⟩))
    have hc7 := s7 _ _ (g4.sub _ _ hd.c_)
    have gcl := good.c.len
    -- 
    refine ⟨_, rfl, .inl ⟨rfl, _, SqL.of hc7⟩, _, _, _, rfl, rfl, hc7, by rw [List.length_map]; exact small1000 (by omega), ?_⟩
    have S := shp0.col (cs' := cols.map V.str ++ [.str "Late"]) hd.ne n2 n3 (by simp; omega)
    have sF : Same (upd (own F4 H4) hc (.lst (cols.map V.str ++ [.str "Late"]))) (upd H7 hc (.lst (cols.map V.str ++ [.str "Late"]))) := fun b o e => by
      by_cases z : b = hc
      · subst z; rw [upd_same] at e ⊢; exact e
      · rw [upd_ne z] at e ⊢; exact s7 _ _ (own_sub _ _ e)
    have outF : ∀ b o, F4 b = none → H7 b = some o → (upd (own F4 H4) hc (.lst (cols.map V.str ++ [.str "Late"]))) b = none ∧ (upd H7 hc (.lst (cols.map V.str ++ [.str "Late"]))) b = some o := fun b o z e => by
      have nb : b ≠ hc := fun y => hcF (y ▸ z)
      rw [upd_ne nb, upd_ne nb]
      exact ⟨own_none z, e⟩
    have fin : ∀ H' : Hp, (∀ b o, (upd (own F4 H4) hc (.lst (cols.map V.str ++ [.str "Late"]))) b = none → (upd H7 hc (.lst (cols.map V.str ++ [.str "Late"]))) b = some o → H' b = some o) → Q (.ref p) H' := fun H' kp => by
      have ke : ∀ b o, F4 b = none → H7 b = some o → H' b = some o := fun b o z e => kp b o (outF b o z e).1 (outF b o z e).2
      have offF : ∀ b, H b ≠ none → F4 b = none := fun b hb => by
        cases y : F4 b with
        | none => rfl
        | some o => exact absurd (newF b (some_ne y)) hb
      refine q p H' (fun b o n e => ke b o (offF b (some_ne e)) (s7 _ _ (s4 b o n e))) ?_ ?_ (s4.free w4.ne hp)
      · obtain ⟨a, b, c, e, r⟩ := w4
        exact ⟨a, b, c, ke _ _ fw (s7 _ _ e), r⟩
      · have sP : Same Fp (hid w H') := fun b o e => by
          have fpw : Fp w = none := g7.out hid_at w4.ne
          have nb : b ≠ w := fun z => by rw [z, fpw] at e; cases e
          rw [hid_ne nb]
          refine ke b o ?_ (g7.sub _ _ e)
          rcases g7.new b (some_ne e) with z | z
          · exact offF b fun y => z (same_none hid_sub y)
          · exact same_none g4.sub z
        have pa' := pa.mono sP
        rw [← gb.h] at pa'
        have em : kds'.map dKind = kds.map dKind := by
          apply List.ext_getElem?
          intro j
          rw [List.getElem?_map, List.getElem?_map]
          cases e : kds'[j]? with
          | none =>
            have := List.getElem?_eq_none_iff.mp e
            rw [List.getElem?_eq_none (by omega)]
          | some k' =>
            obtain ⟨k, er⟩ := at_len kl e
            have x := ws j k k' er e
            rw [er]
            show some (dKind k') = some (dKind k)
            unfold dKind
            rw [x.nm, x.rows, x.steps]
        obtain ⟨dx', c', k', h', a1, a2, a3, a4⟩ := pa'
        rw [em] at a3
        exact ⟨dx', c', k', h', a1, a2, a3, a4⟩
    clear q DA
    generalize upd (own F4 H4) hc (.lst (cols.map V.str ++ [.str "Late"])) = F at *
    generalize upd H7 hc (.lst (cols.map V.str ++ [.str "Late"])) = H8 at *
    have kl := S.kl
    have hk8 := sF _ _ S.k_
    refine ⟨_, rfl, hk, rfl, ⟨_, SqL.of hk8⟩, for_list (K := K) (a := hk) (xs := kas'.map fun a => V.ref a.1)
      (fun i σ H' => ∃ v1 v2 v3 v4, σ = [some (.ref w), some (.ref t0), some (.ref hc), some (.ref hk), some (.ref hh), some (.ref p), v1, v2, v3, v4, none] ∧ Sh F H8 i H' ∧ H' hk = some (.lst (kas'.map fun a => V.ref a.1)))
      ⟨none, none, none, none, rfl, Sh.refl sF, hk8⟩ (fun i σ H' _ ⟨_, _, _, _, _, _, h⟩ => SqL.of h) ?_ ?_⟩
    · rintro i x σ H1 hx ⟨v1, v2, v3, v4, rfl, sh, hk1⟩
      rw [List.getElem?_map] at hx
      obtain ⟨a, ea, rfl⟩ := Option.map_eq_some_iff.mp hx
      have hi : i < kas'.length := (List.getElem?_eq_some_iff.mp ea).1
      obtain ⟨⟨nm, ht⟩, ⟨ys0, hy0, yl0, yd0⟩, ⟨zs0, hz0⟩, n1, n2⟩ := S.ct a (List.mem_of_getElem? ea)
      obtain ⟨ys, hys, yl, yd⟩ := sh.all hy0 yd0
      refine ⟨a.1, _, rfl, SqT.of (sh.tp _ _ ht), rfl, _, _, rfl, _, _, rfl, _, _, rfl, rfl, ?_⟩
      refine ⟨_, rfl, a.2.1, rfl, ⟨_, SqL.of hys⟩, for_list (K := K) (a := a.2.1) (xs := ys)
        (fun j σ H' => ∃ v4, σ = [some (.ref w), some (.ref t0), some (.ref hc), some (.ref hk), some (.ref hh), some (.ref p), some (.str nm), some (.ref a.2.1), some (.ref a.2.2), v4, none] ∧ Sh F H8 i H' ∧ H' hk = some (.lst (kas'.map fun a => V.ref a.1)) ∧ H' a.2.1 = some (.lst ys) ∧ ∀ y ∈ ys, isD F H8 H' y)
        ⟨v4, rfl, sh, hk1, hys, yd⟩ (fun i σ H' _ ⟨_, _, _, _, h, _⟩ => SqL.of h) ?_ ?_⟩
      · rintro j x σ H2 hx2 ⟨v4, rfl, sh2, hk2, hy2, yd2⟩
        obtain ⟨d, kvs, rfl, od, hd⟩ := yd2 x (List.mem_of_getElem? hx2)
        refine ⟨_, rfl, .inr (.inr (.inl ⟨rfl, .inl ⟨_, hd⟩⟩)), d, _, rfl, rfl, hd, ?_⟩
        have sh3 := sh2.dict (kvs' := []) od hd
        refine ⟨_, rfl, sh3, ?_, ?_, fun y hy => (yd2 y hy).keep fun b k hb => ?_⟩
        · rw [upd_ne (fun z => by rw [z, hd] at hk2; cases hk2)]; exact hk2
        · rw [upd_ne (fun z => by rw [z, hd] at hy2; cases hy2)]; exact hy2
        · by_cases z : b = d
          · subst z; exact ⟨_, upd_same⟩
          · exact ⟨k, by rw [upd_ne z]; exact hb⟩
      · rintro σ H2 ⟨v4, rfl, sh2, hk2, hy2, yd2⟩
        refine ⟨_, rfl, .inl ⟨rfl, _, SqL.of hy2⟩, fun p' hp' => ?_⟩
        obtain ⟨sh3, dp⟩ := sh2.new (kvs := []) hp'
        have s3 := same_upd (o := .dK []) hp'
        refine ⟨_, _, _, rfl, rfl, s3 _ _ hy2, small1000 (by omega), ?_⟩
        have sh4 := sh3.list (ys := ys ++ [.ref p']) (c' := i + 1) hy0 (by omega) (by simp; omega) (fun y hy => by
          rcases List.mem_append.mp hy with hy | hy
          · exact .inr ((yd2 y hy).keep fun b k hb => ⟨k, s3 _ _ hb⟩)
          · rw [List.mem_singleton.mp hy]; exact .inr dp)
        have hk4 : (upd (upd H2 p' (.dK [])) a.2.1 (.lst (ys ++ [.ref p']))) hk = some (.lst (kas'.map fun a => V.ref a.1)) := by rw [upd_ne (Ne.symm n1)]; exact s3 _ _ hk2
        obtain ⟨zs, hzs, _, _⟩ := sh4.ls _ _ hz0
        refine ⟨_, rfl, .inl ⟨rfl, _, SqL.of hzs⟩, a.2.2, _, rfl, rfl, hzs, ?_⟩
        exact ⟨_, _, _, _, rfl, sh4.list hz0 (Nat.le_refl _) (Nat.zero_le _) (fun y hy => nomatch hy), by rw [upd_ne (Ne.symm n2)]; exact hk4⟩
    · rintro σ H1 ⟨v1, v2, v3, v4, rfl, sh, hk1⟩
      rw [List.length_map] at sh
      obtain ⟨ys, hys, yl, yd⟩ := sh.all S.h_ S.hd
      have hl := S.hl
      refine ⟨_, rfl, hh, rfl, ⟨_, SqL.of hys⟩, for_list (K := K) (a := hh) (xs := ys)
        (fun j σ H' => ∃ v8, σ = [some (.ref w), some (.ref t0), some (.ref hc), some (.ref hk), some (.ref hh), some (.ref p), v1, v2, v3, v4, v8] ∧ Sh F H8 kas'.length H' ∧ H' hh = some (.lst ys) ∧ ∀ y ∈ ys, isD F H8 H' y)
        ⟨_, rfl, sh, hys, yd⟩ (fun i σ H' _ ⟨_, _, _, h, _⟩ => SqL.of h) ?_ ?_⟩
      · rintro j x σ H2 hx2 ⟨v8, rfl, sh2, hy2, yd2⟩
        obtain ⟨d, kvs, rfl, od, hd⟩ := yd2 x (List.mem_of_getElem? hx2)
        refine ⟨_, rfl, .inr (.inr (.inl ⟨rfl, .inl ⟨_, hd⟩⟩)), d, _, rfl, rfl, hd, ?_⟩
        have sh3 := sh2.dict (kvs' := []) od hd
        refine ⟨_, rfl, sh3, ?_, fun y hy => (yd2 y hy).keep fun b k hb => ?_⟩
        · rw [upd_ne (fun z => by rw [z, hd] at hy2; cases hy2)]; exact hy2
        · by_cases z : b = d
          · subst z; exact ⟨_, upd_same⟩
          · exact ⟨k, by rw [upd_ne z]; exact hb⟩
      · rintro σ H2 ⟨v8, rfl, sh2, hy2, yd2⟩
        have w2 : Wk F H8 900 H2 := ⟨fun b xs e l => by
          obtain ⟨ys, h1, h2, _⟩ := sh2.ls b xs e
          exact ⟨ys, h1, by omega⟩, sh2.out⟩
        clear sh2
        obtain ⟨ks3, hk3, kl3⟩ := w2.ls _ _ S.k_ (by rw [List.length_map]; omega)
        refine ⟨_, rfl, .inl ⟨rfl, _, SqL.of hk3⟩, _, _, rfl, rfl, hk3, ?_⟩
        have w4 := w2.list (n := 901) (ys := []) S.k_ (by omega) (Nat.zero_le _)
        obtain ⟨hs4, hh4, hl4⟩ := w4.ls _ _ S.h_ hl
        refine ⟨_, rfl, .inl ⟨rfl, _, SqL.of hh4⟩, fun p' hp' => ?_⟩
        have w5 := w4.new (o := .dK []) hp'
        refine ⟨_, _, _, rfl, rfl, same_upd hp' _ _ hh4, small1000 (by omega), ?_⟩
        exact ⟨_, rfl, fin _ (w5.list (n := 902) (ys := hs4 ++ [.ref p']) S.h_ (by omega) (by simp; omega)).out⟩
end
end Pz
namespace Pz
open PySem L2
open PyProof.Rows (envOfC)
/-! ### numbers_of where it may raise -/
structure EUn (K : PySem.W.Frag) (mg : Str → Option Value) (CU : Addr) : Prop where
  eUnknownColumn : ErrT K mg "UnknownColumn" CU
/-- the keys of a table -/
abbrev keys (tb : List (Str × Int)) : List Str := tb.map (·.1)
/-- the first strange key -/
def Odd (cols : List Str) (tb : List (Str × Int)) (s : Str) : Prop := s ∈ keys tb ∧ s ∉ cols ∧ ∀ s' ∈ keys tb, s' ∉ cols → leS s s'
def spNumX (CU : Addr) : Sp := fun vs H Q E => ∃ (c t : Addr) (cols : List Str) (tb : List (Str × Int)), vs = [.ref c, .ref t] ∧ H c = some (.lst (cols.map V.str)) ∧ H t = some (.dK (eSum tb)) ∧ cols.length ≤ 20 ∧ tb.length < 64 ∧
  ((∀ p ∈ tb, p.1 ∈ cols) → ∀ (p : Addr) (H' : Hp), H p = none → Same H H' → H' p = some (.lst ((cols.map (look tb)).map V.int)) → Q (.ref p) H') ∧
  (∀ s, Odd cols tb s → ∀ (d : Addr) (H' : Hp), Same H H' → H' d = some (xdV (.str s)) → E (.ref CU) (some d) H')
section
variable {P : Program} {w : World} {K : PySem.W.Frag} {mg : Str → Option Value} {base : Heap} {CU : Addr}
theorem ok_numbers_ofX (T : Txt K mg) (EE : EUn K mg CU) : FnX P w K mg base 3 "numbers_of" ["columns", "table"] (spNumX CU) := by
  refine T.d_numbers_of.fnX sc_numbers_of (fun vs H Q E h => ?_) (fun cdv A outer f s H vs Q E hr h => ?_)
  · obtain ⟨_, _, _, _, rfl, _⟩ := h; rfl
  · obtain ⟨c, t, cols, tb, rfl, hc, ht, hlen, hl, q, e⟩ := h
    refine ⟨_, (pss_cons (ps_for (passes_of rfl) rfl (pi_list (pe_callB (call_sortedD rfl) (by rfl) T.z_sorted (by decide +kernel) (pa_cons (pv 1) pa_nil))) (pg_name (i := 2) sc_numbers_of.nd rfl (Or.inl rfl)) (pss_one (ps_if (pt_cmpR op_notIn_seq (pv 2) (pv 0) (by rfl)) (pss_one (ps_err rfl (takes_of rfl rfl rfl rfl) EE.eUnknownColumn hr (by rfl) (pv 2))) pss_nil))) (pss_one (ps_ret (pe_lc (own := [("column", 2)]) (g := gName 2) (by rfl) sc_numbers_of.nd (pi_list (pv 0)) (blkOk_by (own := [("column", 2)]) (N := ["columns", "table", "column"]) (sc := defScope s_numbers_of) (by decide +kernel)) (fun _ _ _ _ _ => pg_name (i := 2) sc_numbers_of.nd rfl (by first | exact Or.inl rfl | exact Or.inr rfl)) (fun _ _ _ _ _ => pts_nil) (fun _ _ _ _ _ => (pe_dget2 (hu_of hr) (pv 1) (pv 2) pe_int ⟨rfl, rfl, rfl, rfl⟩)))))), ?_⟩
    refine ⟨_, rfl, t, eSum tb, tb.map (·.1), rfl, .inl ht, by simp [eSum], by simpa using hl, fun ys p perm srt hp => ?_⟩
    have srt' := sorted_le srt
    have s0 : Same H (upd H p (.lst (ys.map V.str))) := same_upd hp
    refine ⟨p, rfl, ⟨_, SqL.of upd_same⟩, for_list (K := K) (a := p) (xs := ys.map V.str) (fun i σ H' => ∃ v, σ = [some (.ref c), some (.ref t), v] ∧ H' = upd H p (.lst (ys.map V.str)) ∧ ∀ y ∈ ys.take i, y ∈ cols)
      ⟨_, rfl, rfl, by simp⟩ (fun i σ H' _ ⟨_, _, e, _⟩ => SqL.of (by rw [e]; exact upd_same)) ?_ ?_⟩
    · rintro i x σ H' hx ⟨v, rfl, rfl, old⟩
      rw [List.getElem?_map] at hx
      obtain ⟨y, hy, rfl⟩ := Option.map_eq_some_iff.mp hx
      refine ⟨_, rfl, _, rfl, c, _, rfl, .inl (SqL.of (s0 _ _ hc)), rfl, flat_strs cols, _, rfl, ?_⟩
      rw [inV_strs]
      by_cases hm : y ∈ cols
      · rw [decide_eq_true hm]
        refine ite2 (fun z => absurd z (by simp)) (fun _ => ⟨_, rfl, rfl, fun z hz => ?_⟩)
        rw [List.take_add_one, hy] at hz
        rcases List.mem_append.mp hz with h | h
        · exact old z h
        · have : z = y := by simpa using h
          rw [this]; exact hm
      · rw [decide_eq_false hm]
        refine ite2 (fun _ => ?_) (fun z => absurd (by simp) z)
        refine ⟨_, rfl, fun d hd => ?_⟩
        refine e y ⟨perm.mem_iff.mp (List.mem_of_getElem? hy), hm, fun s' hs hn => ?_⟩ d _ (s0.trans (same_upd hd)) upd_same
        have hs' : s' ∈ ys := perm.mem_iff.mpr hs
        obtain ⟨j, hj, ej⟩ := List.mem_iff_getElem.mp hs'
        obtain ⟨hi, ei⟩ := List.getElem?_eq_some_iff.mp hy
        by_cases hji : j < i
        · exact absurd (old s' (List.mem_take_iff_getElem.mpr ⟨j, by omega, ej⟩)) hn
        · by_cases eji : j = i
          · have : s' = y := by subst eji; rw [← ej, ← ei]
            rw [this]; exact leS_refl _
          · have := List.pairwise_iff_getElem.mp srt' i j hi hj (by omega)
            rw [ei, ej] at this
            exact this
    · rintro σ H' ⟨v, rfl, rfl, all⟩
      rw [List.take_of_length_le (by simp)] at all
      have good : ∀ p ∈ tb, p.1 ∈ cols := fun p hp => all _ (perm.mem_iff.mpr (List.mem_map.mpr ⟨p, hp, rfl⟩))
      refine ⟨_, rfl, c, rfl, ⟨_, SqL.of (s0 _ _ hc)⟩, fun D hD => ?_⟩
      refine lc_data (K := K) (a := c) (xs := cols.map V.str) (F0 := fun _ => none) ((cols.map (look tb)).map .int) (by simp) (by rw [List.length_map]; omega) (SqL.of (s0 _ _ hc)) hD (fun b o z => by cases z) (fun i x d F' H' Q' hx hd s2 gr _ _ k => ?_) (fun F' H' ys' s2 _ _ ra hD' => ?_)
      · rw [List.getElem?_map] at hx
        obtain ⟨y, hy, rfl⟩ := Option.map_eq_some_iff.mp hx
        rw [List.map_map, List.getElem?_map, hy] at hd
        cases hd
        have ht2 := s2 _ _ (s0 _ _ ht)
        refine ⟨rfl, _, rfl, t, rfl, .inl ⟨_, .inl ht2⟩, _, rfl, _, DGet.k (k := Sum.inr y) ht2, ?_⟩
        have e : (valV (eSum tb) (Sum.inr y)).getD (V.int 0) = V.int (look tb y) := valV_eSum y tb
        rw [e]
        exact k _ _ _ (Same.refl _) (Gr.refl gr.sub) (by show R F' (.int (look tb y)) (.int (look tb y)); simp only [R])
      · rw [RA.ints_eq ra] at hD'
        exact q good D H' (same_none s0 hD) (s0.trans s2) hD'
end
end Pz
namespace Pz
open PySem L2
open PyProof.Rows (envOfC)
/-! ### the errors of the class (k03) -/
structure ECs where
  i : Addr
  d : Addr
  n : Addr
  u : Addr
  s : Addr
  t : Addr
  w : Addr
  p : Addr
structure Errs (K : PySem.W.Frag) (mg : Str → Option Value) (c : ECs) : Prop where
  eInvalidName : ErrT K mg "InvalidName" c.i
  eDoubleName : ErrT K mg "DoubleName" c.d
  eNoState : ErrT K mg "NoState" c.n
  eUnknownColumn : ErrT K mg "UnknownColumn" c.u
  eInvalidStart : ErrT K mg "InvalidStart" c.s
  eInvalidStep : ErrT K mg "InvalidStep" c.t
  eDoubleStep : ErrT K mg "DoubleStep" c.w
  ePartError : ErrT K mg "PartError" c.p
  xni : PySem.W.exmOne K (.ref c.n) (.ref c.i) = some false
  xnd : PySem.W.exmOne K (.ref c.n) (.ref c.d) = some false
  xnn : PySem.W.exmOne K (.ref c.n) (.ref c.n) = some true
  xui : PySem.W.exmOne K (.ref c.u) (.ref c.i) = some false
  xud : PySem.W.exmOne K (.ref c.u) (.ref c.d) = some false
  xun : PySem.W.exmOne K (.ref c.u) (.ref c.n) = some false
  xuu : PySem.W.exmOne K (.ref c.u) (.ref c.u) = some true
  xsi : PySem.W.exmOne K (.ref c.s) (.ref c.i) = some false
  xsd : PySem.W.exmOne K (.ref c.s) (.ref c.d) = some false
  xsn : PySem.W.exmOne K (.ref c.s) (.ref c.n) = some false
  xsu : PySem.W.exmOne K (.ref c.s) (.ref c.u) = some false
  xss : PySem.W.exmOne K (.ref c.s) (.ref c.s) = some true
/-- what is raised: the class, the value -/
def Out (E : XK) (H : Hp) (c : Addr) (v : V) : Prop := ∀ (d : Addr) (H' : Hp), Same H H' → H' d = some (xdV v) → E (.ref c) (some d) H'
theorem Out.raise {E : XK} {H H1 : Hp} {c : Addr} {v : V} (h : Out E H c v) (s : Same H H1) : ∀ d, H1 d = none → E (.ref c) (some d) (upd H1 d (xdV v)) := fun d hd => h d _ (s.trans (same_upd hd)) upd_same
theorem Out.mono {E : XK} {H H1 : Hp} {c : Addr} {v : V} (h : Out E H c v) (s : Same H H1) : Out E H1 c v := fun d H' s' e => h d H' (s.trans s') e
theorem map_int_inj : ∀ {a b : List Int}, a.map PyData.int = b.map PyData.int → a = b
  | [], [], _ => rfl
  | [], _ :: _, h => nomatch h
  | _ :: _, [], h => nomatch h
  | x :: a, y :: b, h => by
    simp only [List.map_cons, List.cons.injEq, PyData.int.injEq] at h
    rw [h.1, map_int_inj h.2]
def Fits (cols : List Str) (tb : List (Str × Int)) : Prop := ∀ p ∈ tb, p.1 ∈ cols
theorem odd_not {cols : List Str} {tb : List (Str × Int)} {s : Str} (o : Odd cols tb s) (f : Fits cols tb) : False := by
  obtain ⟨y, hy, ey⟩ := List.mem_map.mp o.1
  exact o.2.1 (ey ▸ f y hy)
/-- what is let out: the first strange column of the first table that has one -/
def OutU (CU : Addr) (cols : List Str) (sums : List (List (Str × Int))) (H : Hp) (E : XK) : Prop :=
  ∀ (i : Nat) tb s, sums[i]? = some tb → (∀ t ∈ sums.take i, Fits cols t) → Odd cols tb s → Out E H CU (.str s)
theorem odd_uniq {cols : List Str} {tb : List (Str × Int)} {s s' : Str} (o : Odd cols tb s) (o' : Odd cols tb s') : s = s' := leS_anti (o.2.2 _ o'.1 o'.2.1) (o'.2.2 _ o.1 o.2.1)
theorem first_uniq {cols : List Str} {sums : List (List (Str × Int))} {i j : Nat} {tb tb' : List (Str × Int)} {s s' : Str} (h : sums[i]? = some tb) (f : ∀ t ∈ sums.take i, Fits cols t) (o : Odd cols tb s) (h' : sums[j]? = some tb') (f' : ∀ t ∈ sums.take j, Fits cols t) (o' : Odd cols tb' s') : s = s' := by
  have key : ∀ {i j : Nat} {tb : List (Str × Int)} {s : Str}, sums[i]? = some tb → Odd cols tb s → (∀ t ∈ sums.take j, Fits cols t) → ¬ i < j := fun {i j tb s} h o f' c => by
    have hi := List.getElem?_eq_some_iff.mp h
    have hm : tb ∈ sums.take j := List.mem_take_iff_getElem.mpr ⟨i, by have := hi.1; omega, hi.2⟩
    exact odd_not o (f' tb hm)
  have e : i = j := by
    rcases Nat.lt_trichotomy i j with c | c | c
    · exact absurd c (key h o f')
    · exact c
    · exact absurd c (key h' o' f)
  subst e
  rw [h] at h'
  cases h'
  exact odd_uniq o o'
/-- what is wrong with the tables of a kind -/
inductive Wrong (cols : List Str) (nm : Str) (c : ECs) (sums : List (List (Str × Int))) : Addr → Str → Prop
  | none (h : sums = []) : Wrong cols nm c sums c.n nm
  | odd {i : Nat} {tb : List (Str × Int)} {s : Str} (h : sums[i]? = some tb) (f : ∀ t ∈ sums.take i, Fits cols t) (o : Odd cols tb s) : Wrong cols nm c sums c.u s
  | start {tb : List (Str × Int)} (f : ∀ t ∈ sums, Fits cols t) (h : sums[0]? = some tb) (z : cols.map (look tb) ≠ zeros cols) : Wrong cols nm c sums c.s nm
def spRowsX (c : ECs) : Sp := fun vs H Q E => ∃ (cc st : Addr) (cols : List Str) (nm : Str) (sums : List (List (Str × Int))) (F : Hp), vs = [.ref cc, .str nm, .ref st] ∧ H cc = some (.lst (cols.map V.str)) ∧ R H (.list (sums.map dSum)) (.ref st) ∧ cols.length ≤ 20 ∧
  sums.length ≤ 40 ∧ (∀ tb ∈ sums, tb.length < 64) ∧ Same F H ∧ (∀ a s, Wrong cols nm c sums a s → Out E H a (.str s)) ∧
  (0 < sums.length → (∀ tb ∈ sums, Fits cols tb) → (∀ tb, sums[0]? = some tb → cols.map (look tb) = zeros cols) → ∀ (p : Addr) (H' F' : Hp), H p = none → Same H H' → Gr F H F' H' → R F' (dRows (sums.map fun tb => cols.map (look tb))) (.ref p) → Q (.ref p) H')
section
variable {P : Program} {w : World} {K : PySem.W.Frag} {mg : Str → Option Value} {base : Heap} {c : ECs}
theorem ok_checked_rowsX (T : Txt K mg) (EE : Errs K mg c) : FnX P w K mg base 4 "checked_rows" ["columns", "kind", "states"] (spRowsX c) := by
  have G_numbers_ofX := ok_numbers_ofX (P := P) (w := w) (base := base) T ⟨EE.eUnknownColumn⟩
  refine T.d_checked_rows.fnX sc_checked_rows (fun vs H Q E h => ?_) (fun cdv A outer f s H vs Q E hr h => ?_)
  · obtain ⟨_, _, _, _, _, _, rfl, _⟩ := h; rfl
  · obtain ⟨cc, st, cols, nm, sums, F, rfl, hc, hst, hlen, hsl, hg, sF, out, q⟩ := h
    refine ⟨_, (pss_cons (ps_if (pt_not (pt_truth (pv 2) (by intro _; rfl))) (pss_one (ps_err rfl (takes_of rfl rfl rfl rfl) EE.eNoState hr (by rfl) (pv 1))) pss_nil) (pss_cons (ps_setLcX (i := 3) (own := [("counts", 4)]) (g := gName 4) (takes_of rfl rfl rfl rfl) rfl rfl (by rfl) sc_checked_rows.nd rfl rfl (sw_true rfl rfl rfl (by decide +kernel)) (pi_list (pv 2)) (blkOk_by (own := [("counts", 4)]) (N := ["columns", "kind", "states", "rows", "counts"]) (sc := defScope s_checked_rows) (by decide +kernel)) (fun _ _ _ _ _ => pg_name (i := 4) sc_checked_rows.nd rfl (by first | exact Or.inl rfl | exact Or.inr rfl)) (fun _ _ _ _ _ => pts_nil) (fun Ex _ _ _ _ _ => (pe_fnX G_numbers_ofX (hr.mono (by decide)) (by rfl) passes_EB (pa_cons (pv 0) (pa_cons (pv 4) pa_nil))))) (pss_cons (ps_if (pt_cmpR (op_neD hr.units) (pe_ix ix_list (pv 3) pe_int (fun _ _ => rfl)) (pe_op op_rep (pe_lst (pa_cons pe_int pa_nil)) (pe_callB call_len_seq (by rfl) T.z_len (by decide +kernel) (pa_cons (pv 0) pa_nil))) (nomark _)) (pss_one (ps_err rfl (takes_of rfl rfl rfl rfl) EE.eInvalidStart hr (by rfl) (pv 1))) pss_nil) (pss_one (ps_ret (pv 3)))))), ?_⟩
    obtain ⟨a, xs, ea, hxs, hra⟩ := R_list.mp hst
    cases ea
    have hxl : xs.length = sums.length := by rw [RA.len hra, List.length_map]
    refine ⟨_, rfl, _, .inl ⟨xs, SqL.of hxs, rfl⟩, ?_⟩
    by_cases se : sums = []
    · have xe : xs.isEmpty = true := by
        cases xs with
        | nil => rfl
        | cons x r => rw [se] at hxl; simp at hxl
      rw [xe]
      exact ⟨_, rfl, (out _ _ (.none se)).raise (Same.refl _)⟩
    have hne : 0 < sums.length := by
      cases sums with
      | nil => exact absurd rfl se
      | cons x r => simp
    have xne : xs.isEmpty = false := by
      cases xs with
      | nil => simp at hxl; omega
      | cons x r => rfl
    rw [xne]
    refine ⟨_, rfl, st, rfl, ⟨_, SqL.of hxs⟩, fun D hD => ?_⟩
    by_cases fits : ∀ tb ∈ sums, Fits cols tb
    · refine lc_data (K := K) (a := st) (xs := xs) (F0 := F) ((sums.map fun tb => cols.map (look tb)).map dInts) (by simp [hxl]) (by omega) (SqL.of hxs) hD sF (fun i x d F' H' Q' hx hd s2 gr nD fD k => ?_) (fun F' H' ys s2 gr fD ra hD' => ?_)
      · have hi : i < sums.length := by rw [← hxl]; exact (List.getElem?_eq_some_iff.mp hx).1
        have hsi : sums[i]? = some sums[i] := List.getElem?_eq_getElem hi
        rw [List.map_map, List.getElem?_map, hsi] at hd
        cases hd
        obtain ⟨x', hx', hR⟩ := RA.at hra (show (sums.map dSum)[i]? = some (dSum sums[i]) by rw [List.getElem?_map, hsi]; rfl)
        rw [hx] at hx'
        cases hx'
        obtain ⟨t, rfl, ht⟩ := R_dSum.mp hR
        refine ⟨rfl, _, rfl, _, rfl, cc, t, cols, sums[i], rfl, s2 _ _ hc, s2 _ _ ht, hlen, hg _ (List.getElem_mem hi), fun _ p H4 hp s4 h4 => ?_, fun z oz => absurd (fits _ (List.getElem_mem hi)) (odd_not oz)⟩
        exact k _ _ _ s4 (Gr.one (gr.sub.trans s4) hp h4) (R_dInts.mpr ⟨p, rfl, upd_same⟩)
      · have raH := RA.mono gr.sub _ _ ra
        obtain ⟨tb0, e0⟩ : ∃ tb, sums[0]? = some tb := ⟨sums[0], List.getElem?_eq_getElem hne⟩
        obtain ⟨y0, ey0, hy0⟩ := RA.at raH (show ((sums.map fun tb => cols.map (look tb)).map dInts)[0]? = some (dInts (cols.map (look tb0))) by rw [List.map_map, List.getElem?_map, e0]; rfl)
        have len0 : (0 : Int) < (ys.length : Int) := by have := RA.len ra; simp only [List.length_map] at this; omega
        refine ⟨_, rfl, D, ys, 0, y0, rfl, rfl, SqL.of hD', atI_nat (j := 0) ey0, (show 1 ≤ sizeLine by decide), fun p2 hp2 => ?_⟩
        have s3 : Same H' (upd H' p2 (.lst [V.int 0])) := same_upd hp2
        refine ⟨_, rfl, cc, _, rfl, .inl (SqL.of (s3 _ _ (s2 _ _ hc))), p2, _, [V.int 0], rfl, rfl, upd_same, by rw [List.length_map]; omega, by rw [List.length_map]; omega, ?_, fun p3 hp3 => ?_⟩
        · rw [List.length_map]
          show 1 * ((cols.length : Int).toNat) ≤ sizeLine
          exact Nat.le_trans (show 1 * ((cols.length : Int).toNat) ≤ 20 by omega) (by decide)
        have ez : (List.replicate ((cols.map V.str).length : Int).toNat [V.int 0]).flatten = (zeros cols).map V.int := by
          rw [List.length_map]
          show (List.replicate cols.length [V.int 0]).flatten = _
          unfold zeros
          rw [List.map_replicate]
          generalize cols.length = n
          induction n with
          | zero => rfl
          | succ n ih => rw [List.replicate_succ, List.flatten_cons, ih, List.replicate_succ]; rfl
        have s4 : Same (upd H' p2 (.lst [V.int 0])) (upd (upd H' p2 (.lst [V.int 0])) p3 (.lst (List.replicate ((cols.map V.str).length : Int).toNat [V.int 0]).flatten)) := same_upd hp3
        refine ⟨dInts (cols.map (look tb0)), dInts (zeros cols), R.dpp hy0 (s3.trans s4) (plain_dInts _), R.dpp (R_dInts.mpr ⟨p3, rfl, by rw [upd_same, ez]⟩) (Same.refl _) (plain_dInts _), shaped_of (plain_dInts _) (Nat.le_trans (depth_dInts _) (by decide)), shaped_of (plain_dInts _) (Nat.le_trans (depth_dInts _) (by decide)), _, rfl, ?_⟩
        by_cases z : cols.map (look tb0) = zeros cols
        · rw [eqv_eq (plain_dInts _) (plain_dInts _) (congrArg dInts z)]
          refine ⟨_, rfl, ?_⟩
          have gz := (gr.snoc hD hD').step (s3.trans s4)
          exact q hne fits (fun tb e => by rw [e0] at e; cases e; exact z) D _ _ hD (s2.trans (s3.trans s4)) gz (R_list.mpr ⟨D, ys, rfl, upd_same, RA.mono (fun b o e => by
            rw [upd_ne (fun z => by rw [z, fD] at e; cases e)]; exact e) _ _ ra⟩)
        · rw [eqv_ne (plain_dInts _) (plain_dInts _) fun y => z (map_int_inj (by simpa only [dInts, PyData.list.injEq] using y))]
          refine ite2 (fun _ => ?_) (fun c => absurd rfl c)
          exact ⟨_, rfl, (out _ _ (.start fits e0 z)).raise (s2.trans (s3.trans s4))⟩
    · have hz : ∃ i : Nat, i < sums.length := ⟨0, hne⟩
      refine lc_list (K := K) (a := st) (xs := xs) (tt := tYes) (fun i H' => ∃ ys : List V, Same H H' ∧ ys.length = i ∧ H' D = some (.lst ys) ∧ ∀ t ∈ sums.take i, Fits cols t)
        ⟨[], same_upd hD, rfl, upd_same, fun t h => by simp at h⟩ (fun i H' _ ⟨ys, s3, _⟩ => s3.seq (SqL.of hxs)) (fun i x H' hx ⟨ys, s3, yl, hD', fit⟩ => ?_) (fun H' ⟨ys, s3, yl, hD', fit⟩ => ?_)
      · have hi : i < sums.length := by rw [← hxl]; exact (List.getElem?_eq_some_iff.mp hx).1
        have hsi : sums[i]? = some sums[i] := List.getElem?_eq_getElem hi
        obtain ⟨x', hx', hR⟩ := RA.at hra (show (sums.map dSum)[i]? = some (dSum sums[i]) by rw [List.getElem?_map, hsi]; rfl)
        rw [hx] at hx'
        cases hx'
        obtain ⟨t, rfl, ht⟩ := R_dSum.mp hR
        refine ⟨rfl, _, rfl, _, rfl, cc, t, cols, sums[i], rfl, s3 _ _ hc, s3 _ _ ht, hlen, hg _ (List.getElem_mem hi), fun fits r H4 hr4 s4 h4 => ?_, fun z oz d H4 s4 e4 => ?_⟩
        · refine ⟨ys, s4 _ _ hD', small1000 (by omega), ys ++ [.ref r], ?_, by simp [yl], upd_same, fun t' ht' => ?_⟩
          · exact fun b o e => by
              rw [upd_ne (fun z => by rw [z, hD] at e; cases e)]
              exact s4 _ _ (s3 _ _ e)
          · rw [List.take_add_one, hsi] at ht'
            rcases List.mem_append.mp ht' with h | h
            · exact fit t' h
            · have : t' = sums[i] := by simpa using h
              rw [this]; exact fits
        · exact out _ _ (.odd hsi fit oz) d H4 (s3.trans s4) e4
      · rw [List.take_of_length_le (by omega)] at fit
        exact absurd fit fits
end
end Pz
namespace Pz
open PySem L2
open PyProof.Rows (envOfC)
/-- the kind that is wrong: its name is good and new, its tables are not -/
structure BadK (c : ECs) (E : XK) (H : Hp) (cols : List Str) (kds : List KD) (x : V) (t : Addr) (nm : Str) (st sp : Addr) (sums : List (List (Str × Int))) : Prop where
  ex : x = .ref t
  ht : H t = some (.tup [.str nm, .ref st, .ref sp])
  nm_ : isNm nm = true
  new : nm ∉ kds.map (·.name)
  hst : R H (.list (sums.map dSum)) (.ref st)
  sl : sums.length ≤ 40
  tl : ∀ tb ∈ sums, tb.length < 64
  wrong : ∃ a s, Wrong cols nm c sums a s
  out : ∀ a s, Wrong cols nm c sums a s → Out E H a (.str s)
theorem BadK.mono {c : ECs} {E : XK} {H H1 : Hp} {cols : List Str} {kds : List KD} {x : V} {t : Addr} {nm : Str} {st sp : Addr} {sums : List (List (Str × Int))} (h : BadK c E H cols kds x t nm st sp sums) (s : Same H H1) : BadK c E H1 cols kds x t nm st sp sums :=
  ⟨h.ex, s _ _ h.ht, h.nm_, h.new, R.mono s _ _ h.hst, h.sl, h.tl, h.wrong, fun a z w => (h.out a z w).mono s⟩
def spKindsX (c : ECs) : Sp := fun vs H Q E => ∃ (cc ks : Addr) (cols : List Str) (kds : List KD) (F : Hp) (xs : List V), vs = [.ref cc, .ref ks] ∧ H cc = some (.lst (cols.map V.str)) ∧ H ks = some (.lst xs) ∧ (∀ (i : Nat) k x, kds[i]? = some k → xs[i]? = some x → HK F H k x) ∧ Same F H ∧ cols.length ≤ 20 ∧
  (∀ k ∈ kds, GoodK cols k) ∧ (kds.map (·.name)).Nodup ∧ kds.length ≤ 20 ∧ kds.length < xs.length ∧
  (∀ x, xs[kds.length]? = some x → ∃ (t : Addr) (nm : Str) (st sp : Addr) (sums : List (List (Str × Int))), BadK c E H cols kds x t nm st sp sums)
/-- when a table is wrong nothing is returned -/
theorem Wrong.no {cols : List Str} {nm : Str} {c : ECs} {sums : List (List (Str × Int))} {a : Addr} {s : Str} (h : Wrong cols nm c sums a s) (l : 0 < sums.length) (f : ∀ tb ∈ sums, Fits cols tb) (z : ∀ tb, sums[0]? = some tb → cols.map (look tb) = zeros cols) : False := by
  cases h with
  | none h => rw [h] at l; simp at l
  | odd h _ o => exact odd_not o (f _ (List.mem_of_getElem? h))
  | start _ h n => exact n (z _ h)
theorem good_fits {cols : List Str} {sums : List (List (Str × Int))} (h : ∀ tb ∈ sums, GoodS cols tb) : ∀ tb ∈ sums, Fits cols tb := fun tb ht => (h tb ht).2
theorem good_not {cols : List Str} {nm : Str} {c : ECs} {sums : List (List (Str × Int))} {a : Addr} {s : Str} (h : Wrong cols nm c sums a s) (l : 0 < sums.length) (g : ∀ tb ∈ sums, GoodS cols tb) (z : ∀ tb, sums[0]? = some tb → cols.map (look tb) = zeros cols) : False := h.no l (good_fits g) z
section
variable {P : Program} {w : World} {K : PySem.W.Frag} {mg : Str → Option Value} {base : Heap} {c : ECs}
theorem ok_checked_kindsX (T : Txt K mg) (EE : Errs K mg c) : FnX P w K mg base 5 "checked_kinds" ["columns", "kinds"] (spKindsX c) := by
  have G_require_new_name := ok_require_new_name (P := P) (w := w) (base := base) T
  have G_checked_rowsX := ok_checked_rowsX (P := P) (w := w) (base := base) T EE
  have G_checked_steps := ok_checked_steps (P := P) (w := w) (base := base) T
  refine T.d_checked_kinds.fnX sc_checked_kinds (fun vs H Q E h => ?_) (fun cdv A outer f s H vs Q E hr h => ?_)
  · obtain ⟨_, _, _, _, _, _, rfl, _⟩ := h; rfl
  · obtain ⟨cc, ks, cols, kds, F, xs, rfl, hc, hks, hk, sF, hcl, hgood, hnd, hlen, kxl, bad⟩ := h
    refine ⟨_, (pss_cons (ps_set (i := 2) sc_checked_kinds.nd rfl (Or.inl rfl) pe_dnewK) (pss_cons (ps_set (i := 3) sc_checked_kinds.nd rfl (Or.inl rfl) (pe_lst pa_nil)) (pss_cons (ps_for (passes_of rfl) rfl (pi_list (pv 1)) (pg_tup (by rfl) (pgs_cons (pg_name (i := 4) sc_checked_kinds.nd rfl (Or.inl rfl)) (pgs_cons (pg_name (i := 5) sc_checked_kinds.nd rfl (Or.inl rfl)) (pgs_cons (pg_name (i := 6) sc_checked_kinds.nd rfl (Or.inl rfl)) pgs_nil)))) (pss_cons (ps_expr (pe_fn G_require_new_name (hr.mono (by decide)) (by rfl) (pa_cons (pv 4) (pa_cons (pv 2) pa_nil)))) (pss_cons (ps_dput (hu_of hr) (pv 2) (pv 4) pe_bl rfl) (pss_cons (ps_set (i := 7) sc_checked_kinds.nd rfl (Or.inl rfl) (pe_fnX G_checked_rowsX (hr.mono (by decide)) (by rfl) (passes_call (takes_of rfl rfl rfl rfl) (fun _ _ _ _ h => h)) (pa_cons (pv 0) (pa_cons (pv 4) (pa_cons (pv 5) pa_nil))))) (pss_one (ps_expr (pe_bm PySem.F.plainAttrs_list PySem.F.slot_list_append PySem.F.type_list_append mt_append (pv 3) (pa_cons (pe_tup (pa_cons (pv 4) (pa_cons (pv 7) (pa_cons (pe_fn G_checked_steps (hr.mono (by decide)) (by rfl) (pa_cons (pe_callB call_len_seq (by rfl) T.z_len (by decide +kernel) (pa_cons (pv 7) pa_nil)) (pa_cons (pv 6) pa_nil))) pa_nil)))) pa_nil)))))))) (pss_one (ps_ret (pv 3)))))), ?_⟩
    intro D1 hD1
    refine ⟨Nat.zero_le _, fun D2 hD2 => ?_⟩
    have s1 : Same H (upd H D1 (.dK [])) := same_upd hD1
    have s2 : Same H (upd (upd H D1 (.dK [])) D2 (.lst [])) := s1.trans (same_upd hD2)
    have n12 : D1 ≠ D2 := fun z => by rw [← z, upd_same] at hD2; cases hD2
    have hD2' : H D2 = none := same_none s1 hD2
    have f1 : F D1 = none := same_none sF hD1
    have f2 : F D2 = none := same_none sF hD2'
    refine ⟨_, rfl, ks, rfl, ⟨_, SqL.of (s2 _ _ hks)⟩, for_list (K := K) (a := ks) (xs := xs)
      (fun i σ H' => ∃ v4 v5 v6 v7 ys F', i ≤ kds.length ∧ σ = [some (.ref cc), some (.ref ks), some (.ref D1), some (.ref D2), v4, v5, v6, v7] ∧ Same H H' ∧ H' D1 = some (.dK (eNames ((kds.take i).map (·.name)))) ∧ H' D2 = some (.lst ys) ∧
        Gr F H F' H' ∧ F' D1 = none ∧ F' D2 = none ∧ RA F' ((kds.take i).map dKind) ys)
      ⟨_, _, _, _, [], F, Nat.zero_le _, rfl, s2, (by rw [upd_ne n12]; exact upd_same), upd_same, ((Gr.refl sF).put f1).put f2, f1, f2, by simp [RA]⟩ (fun i σ H' _ h => ?_) ?_ ?_⟩
    · obtain ⟨_, _, _, _, _, _, _, _, s', _⟩ := h
      exact SqL.of (s' _ _ hks)
    · rintro i x σ H' hx ⟨v4, v5, v6, v7, ys, F', im, rfl, s', d1, d2, gr, e1, e2, ra⟩
      by_cases eim : i = kds.length
      · obtain ⟨t, nm, st, sp, sums, B⟩ := bad x (by rw [← eim]; exact hx)
        obtain ⟨rfl, ht, hn, hm, hst, sl, tl, wr, out⟩ := B
        refine ⟨t, _, rfl, SqT.of (s' _ _ ht), rfl, _, _, rfl, _, _, rfl, _, _, rfl, rfl, ?_⟩
        have tk : kds.take i = kds := List.take_of_length_le (by omega)
        rw [tk] at d1 ra
        refine ⟨_, rfl, _, rfl, nm, D1, _, rfl, hn, d1, hm, fun H2 s2' => ?_⟩
        refine ⟨_, rfl, _, rfl, D1, _, rfl, DPut.k (k := Sum.inr nm) (s2' _ _ d1) ?_, ?_⟩
        · rw [len_eNames, List.length_map]; exact small1000 (by omega)
        rw [putK_eNames hm]
        have sH3 : Same H (upd H2 D1 (.dK (eNames (kds.map (·.name) ++ [nm])))) := fun b o e => by
          rw [upd_ne (fun z => by rw [z, hD1] at e; cases e)]
          exact s2' _ _ (s' _ _ e)
        have gr3 := (gr.step s2').put (o := .dK (eNames (kds.map (·.name) ++ [nm]))) e1
        generalize upd H2 D1 (.dK (eNames (kds.map (·.name) ++ [nm]))) = H3 at *
        refine ⟨_, rfl, _, rfl, _, rfl, cc, st, cols, nm, sums, F', rfl, sH3 _ _ hc, R.mono sH3 _ _ hst, hcl, sl, tl, gr3.sub, fun a z w => (out a z w).mono sH3, fun l f z => ?_⟩
        obtain ⟨a, y, w⟩ := wr
        exact (w.no l f z).elim
      have hi : i < kds.length := by omega
      have hki : kds[i]? = some kds[i] := List.getElem?_eq_getElem hi
      obtain ⟨t, st, sp, zs, rfl, ht, hst, hsp, hzs⟩ := hk i _ _ hki hx
      have gk := hgood _ (List.getElem_mem hi)
      generalize hkd : kds[i] = k at *
      refine ⟨t, _, rfl, SqT.of (s' _ _ ht), rfl, _, _, rfl, _, _, rfl, _, _, rfl, rfl, ?_⟩
      have nin : k.name ∉ (kds.take i).map (·.name) := by
        rw [List.map_take]
        exact not_mem_take hnd (by rw [List.getElem?_map, hki]; rfl)
      refine ⟨_, rfl, _, rfl, k.name, D1, _, rfl, gk.nm, d1, nin, fun H2 s2' => ?_⟩
      refine ⟨_, rfl, _, rfl, D1, _, rfl, DPut.k (k := Sum.inr k.name) (s2' _ _ d1) ?_, ?_⟩
      · rw [len_eNames, List.length_map, List.length_take]; exact small1000 (by omega)
      rw [putK_eNames nin]
      have sH3 : Same H (upd H2 D1 (.dK (eNames ((kds.take i).map (·.name) ++ [k.name])))) := fun b o e => by
        rw [upd_ne (fun z => by rw [z, hD1] at e; cases e)]
        exact s2' _ _ (s' _ _ e)
      have d2' : (upd H2 D1 (.dK (eNames ((kds.take i).map (·.name) ++ [k.name])))) D2 = some (.lst ys) := by
        rw [upd_ne (Ne.symm n12)]; exact s2' _ _ d2
      have gr3 := (gr.step s2').put (o := .dK (eNames ((kds.take i).map (·.name) ++ [k.name]))) e1
      have d1' : (upd H2 D1 (.dK (eNames ((kds.take i).map (·.name) ++ [k.name])))) D1 = some (.dK (eNames ((kds.take i).map (·.name) ++ [k.name]))) := upd_same
      generalize hH3 : upd H2 D1 (.dK (eNames ((kds.take i).map (·.name) ++ [k.name]))) = H3 at *
      have gz : ∀ tb, k.sums[0]? = some tb → cols.map (look tb) = zeros cols := fun tb htb => by
        have := gk.zero
        rw [gk.rows, List.getElem?_map, htb] at this
        exact Option.some.inj this
      refine ⟨_, rfl, _, rfl, _, rfl, cc, st, cols, k.name, k.sums, F', rfl, sH3 _ _ hc, R.mono sH3 _ _ hst, hcl, gk.len, fun tb ht => (gk.sums tb ht).1, gr3.sub, fun a z w => (good_not w gk.ne gk.sums gz).elim, fun _ _ _ p H4 F4 hp s4 g4 hR4 => ?_⟩
      have e41 := g4.out e1 (some_ne d1')
      have e42 := g4.out e2 (some_ne d2')
      obtain ⟨_, rs, ep, hrs, hra⟩ := R_list.mp hR4
      cases ep
      have rl : rs.length = k.sums.length := by have := RA.len hra; simp only [List.length_map] at this; exact this
      have sH4 := sH3.trans s4
      refine ⟨_, rfl, .inl ⟨rfl, _, SqL.of (s4 _ _ d2')⟩, _, rfl, _, rfl, _, rfl, p, rs, rfl, .inl (SqL.of (g4.sub _ _ hrs)), _, rfl, _, sp, k.steps, F4, zs, rfl, sH4 _ _ hsp, RA.mono (gr3.le.trans g4.le) _ _ hzs, g4.sub, gk.slen, ?_, gk.snd, fun p5 H5 F5 hp5 s5 g5 hR5 => ?_⟩
      · rw [rl]; exact gk.stp
      refine ⟨(show 3 ≤ sizeLine by decide), fun p6 hp6 => ?_⟩
      have s6 := same_upd (o := .tup [V.str k.name, .ref p, .ref p5]) hp6
      have e51 := g5.out e41 (some_ne (s4 _ _ d1'))
      have e52 := g5.out e42 (some_ne (s4 _ _ d2'))
      have g45 : Gr F H F5 H5 := (gr3.trans g4 (fun z hz => same_none sH3 hz)).trans g5 (fun z hz => same_none sH4 hz)
      have sH5 := sH4.trans s5
      have g6 := (g45.step s6).snoc (same_none sH5 hp6) upd_same
      have n61 : p6 ≠ D1 := fun z => by have := s5 _ _ (s4 _ _ d1'); rw [← z, hp6] at this; cases this
      have n62 : p6 ≠ D2 := fun z => by have := s5 _ _ (s4 _ _ d2'); rw [← z, hp6] at this; cases this
      have yl : ys.length = i := by have := RA.len ra; simp only [List.length_map, List.length_take] at this; omega
      have le6 : Same F5 (upd F5 p6 (.tup [V.str k.name, .ref p, .ref p5])) := fun b o e => by
        rw [upd_ne (fun z => by have := g5.sub _ _ e; rw [z, hp6] at this; cases this)]; exact e
      refine ⟨_, _, _, rfl, rfl, s6 _ _ (s5 _ _ (s4 _ _ d2')), small1000 (by omega), ?_⟩
      refine ⟨_, _, _, _, ys ++ [.ref p6], _, by omega, rfl, ?_, ?_, upd_same, g6.put (by rw [upd_ne (Ne.symm n62)]; exact e52), (by rw [upd_ne (Ne.symm n61)]; exact e51), (by rw [upd_ne (Ne.symm n62)]; exact e52), ?_⟩
      · exact fun b o e => by
          rw [upd_ne (fun z => by rw [z, hD2'] at e; cases e)]
          exact s6 _ _ (sH5 _ _ e)
      · rw [upd_ne n12, List.take_add_one, hki, List.map_append]
        exact s6 _ _ (s5 _ _ (s4 _ _ d1'))
      · rw [List.take_add_one, hki, List.map_append]
        refine RA.append (RA.mono ((g4.le.trans g5.le).trans le6) _ _ ra) ?_
        show RA _ [dKind k] _
        simp only [RA]
        refine ⟨_, [], rfl, R_dKind.mpr ⟨p6, .ref p, .ref p5, rfl, upd_same, ?_, R.mono le6 _ _ hR5⟩, rfl⟩
        rw [gk.rows]
        exact R.mono (g5.le.trans le6) _ _ hR4
    · rintro σ H' ⟨v4, v5, v6, v7, ys, F', im, rfl, s', d1, d2, gr, e1, e2, ra⟩
      exact absurd im (by omega)
end
end Pz
namespace Pz
open PySem L2
open PyProof.Rows (envOfC)
/-! ### the class where it raises, within a try -/
structure MakeX (P : Program) (w : World) (K : PySem.W.Frag) (mg : Str → Option Value) (base : Heap) (k : Nat) (C : Addr) (x : Str) (ps : List Str) (sp : Sp) : Prop where
  ex : ∃ f fd, Mk K C f ∧ mg x = some (.ref C) ∧ Binds K fd ps [] ∧ FnOk P w K mg base (L2.CX P w) k f fd ps sp
def tMkS (C : Addr) (sp : Sp) (E : L2.St → XK) (t : TA) : TE := fun σ H Q => t σ H fun vs H1 => ∀ x dx, H1 x = none → H1 dx = none → dx ≠ x →
  sp (.ref x :: vs) (upd (upd H1 dx (.own x)) x (.ins C dx [])) (fun v H2 => v = .non ∧ Q (.ref x) H2) (E σ)
theorem pe_mkS {X : Cx} {k : Nat} {C : Addr} {x : Str} {ps : List Str} {sp : Sp} {p pos : Pos} {e : Expr} {es : List Expr} {t : TA} {W : WX} (F : MakeX X.prog X.w X.K X.mg X.base k C x ps sp) (hr : Room (k + 1) X.A) (tk : Takes X W) (hg : Gl X x)
    (ha : PA X (e :: es) t) (hdb : (x == ("__debug__" : Str)) = false := by decide) (he : starEach (e :: es) X.env = (false, eval e X.env) :: starEach es X.env := by rfl)
    (hpl : (backTo pos (starEach es X.env)).any (·.1) = false := by rfl) : PE X (.Call (.Name x p) (e :: es) [] pos) (tMkS C sp (WE W) t) := by
  obtain ⟨f, fd, M, hm, hb, F1⟩ := F.ex
  constructor
  intro pins s σ H Q I h
  apply wpAny_Call_Name_kw
  apply ld_glob I hg hm _ hdb
  apply PySem.W.callWith_K (h₀ := X.base) I.ok.mod.kin M.kp _ he hpl
  refine thn (ha.run pos pins s σ H _ I h) ?_
  rintro us t1 ⟨vs, H1, I1, r, q⟩
  refine ⟨I1.kIn, ?_⟩
  have at_ := q (t1.heap.objs.size + 1) t1.heap.objs.size (I1.hok.fresh (Nat.le_succ _)) (I1.hok.fresh (Nat.le_refl _)) (Nat.ne_of_lt (Nat.lt_succ_self _))
  have J := Inv.made (C := C) I1
  have rr : Vals (V.ref (t1.heap.objs.size + 1) :: vs) (Value.ref (t1.heap.objs.size + 1) :: us) := .cons rfl r
  have len : (Value.ref (t1.heap.objs.size + 1) :: us).length = ps.length := by
    rw [← rr.length]
    exact F1.len _ _ _ _ at_
  have bnd := hb _ (Value.ref (t1.heap.objs.size + 1) :: us) J.kIn (by rw [List.append_nil]; exact len)
  rw [List.append_nil] at bnd
  refine wpAny_call (make_map (f := f) I1.kIn M.makes M.init (beq_iff_eq.mp M.fn) ?_)
  refine codeAny_mono (F1.run _ X.stack _ _ ⟨Value.ref (t1.heap.objs.size + 1) :: us, []⟩ _ _ _ (WE W σ) (hr.make C us []) (J.env0.make C us []) bnd rr at_) ?_
  intro res s2 z
  match res, z with
  | .error er, z => exact passAt tk σ pins _ _ er s2 J z
  | .ok (.ret u), z =>
    obtain ⟨v, H2, J2, rv, ev, q3⟩ := J.after z
    subst ev
    exact ⟨rv, V.ref (t1.heap.objs.size + 1), H2, J2, rfl, q3⟩
def spInitX (C : Addr) (c : ECs) : Sp := fun vs H Q E => ∃ (H0 : Hp) (p dx cc ks hs : Addr) (cols : List Str) (kds : List KD) (F : Hp) (xs : List V), vs = [.ref p, .ref cc, .ref ks, .ref hs] ∧ H = upd (upd H0 dx (.own p)) p (.ins C dx []) ∧ H0 p = none ∧ H0 dx = none ∧ dx ≠ p ∧ H0 cc = some (.lst (cols.map V.str)) ∧
  GoodC cols ∧ H0 ks = some (.lst xs) ∧ (∀ (i : Nat) k x, kds[i]? = some k → xs[i]? = some x → HK F H0 k x) ∧ kds.length < xs.length ∧ Same F H0 ∧ (∀ k ∈ kds, GoodK cols k) ∧ (kds.map (·.name)).Nodup ∧ kds.length ≤ 20 ∧
  (∀ x, xs[kds.length]? = some x → ∃ (t : Addr) (nm : Str) (st sp : Addr) (sums : List (List (Str × Int))), BadK c E H0 cols kds x t nm st sp sums)
section
variable {P : Program} {w : World} {K : PySem.W.Frag} {mg : Str → Option Value} {base : Heap} {C : Addr} {c : ECs}
theorem ok_Plan_initX (T : Txt K mg) (L : PlanT K mg C) (EE : Errs K mg c) : MakeX P w K mg base 6 C "Plan" ["self", "columns", "kinds", "checks"] (spInitX C c) := by
  have G_checked_columns := ok_checked_columns (P := P) (w := w) (base := base) T
  have G_checked_kindsX := ok_checked_kindsX (P := P) (w := w) (base := base) T EE
  have G_numbers_of := ok_numbers_of (P := P) (w := w) (base := base) T
  obtain ⟨fa, fd, hM, Fi, hb⟩ := L.init
  refine ⟨fa, fd, hM, L.mgP, hb, Fi.okX sc_Planinit (fun vs H Q E h => ?_) (fun cdv A outer s H vs Q E hr h => ?_)⟩
  · obtain ⟨_, _, _, _, _, _, _, _, _, _, rfl, _⟩ := h; rfl
  · obtain ⟨H0, p, dx, cc, ks, hs, cols, kds, F, xs, rfl, rfl, hp0, hd0, ndp, hc, gc, hks, hk, kxl, sF, gk, nd, kl, bad⟩ := h
    refine ⟨_, (pss_cons (ps_fld (pv 0) (pe_fn G_checked_columns (hr.mono (by decide)) (by rfl) (pa_cons (pv 1) pa_nil)) (by rfl)) (pss_cons (ps_fld (pv 0) (pe_fnX G_checked_kindsX (hr.mono (by decide)) (by rfl) (passes_call (takes_of rfl rfl rfl rfl) (fun _ _ _ _ h => h)) (pa_cons (pe_fld (pv 0) (by rfl)) (pa_cons (pv 2) pa_nil))) (by rfl)) (pss_one (ps_fld (pv 0) (pe_lc (own := [("check", 4)]) (g := gName 4) (by rfl) sc_Planinit.nd (pi_list (pv 3)) (blkOk_by (own := [("check", 4)]) (N := ["self", "columns", "kinds", "checks", "check"]) (sc := defScope s_Planinit) (by decide +kernel)) (fun _ _ _ _ _ => pg_name (i := 4) sc_Planinit.nd rfl (by first | exact Or.inl rfl | exact Or.inr rfl)) (fun _ _ _ _ _ => pts_nil) (fun _ _ _ _ _ => (pe_fn G_numbers_of (hr.mono (by decide)) (by rfl) (pa_cons (pe_fldK (K := K) (pv 0) (by rfl)) (pa_cons (pv 4) pa_nil))))) (by rfl))))), ?_⟩
    have s0 : Same H0 (upd (upd H0 dx (.own p)) p (.ins C dx [])) := fun b o e => by
      rw [upd_ne (ne_of_none e hp0), upd_ne (ne_of_none e hd0)]; exact e
    have hp : (upd (upd H0 dx (.own p)) p (.ins C dx [])) p = some (.ins C dx []) := upd_same
    generalize hH : upd (upd H0 dx (.own p)) p (.ins C dx []) = H at *
    refine ⟨_, rfl, cc, cols, rfl, s0 _ _ hc, gc.nd, Nat.le_trans gc.len (by decide), gc.nm, fun q1 H1 hq1 s1 hc1 => ?_⟩
    have hp1 := s1 _ _ hp
    refine ⟨_, rfl, p, C, dx, [], rfl, hp1, L.cl, L.nC, (by show 0 < 1000; decide), ?_⟩
    have np1 : q1 ≠ p := fun z => by rw [z, hp] at hq1; cases hq1
    have sB1 : Same H0 (upd H1 p (.ins C dx (pf1 q1))) := fun b o e => by
      rw [upd_ne (ne_of_none e hp0)]; exact s1 _ _ (s0 _ _ e)
    have c1 : (upd H1 p (.ins C dx (pf1 q1))) q1 = some (.lst (cols.map V.str)) := by rw [upd_ne np1]; exact hc1
    have p1 : (upd H1 p (.ins C dx (pf1 q1))) p = some (.ins C dx (pf1 q1)) := upd_same
    show (tSeq _ _) _ _ (upd H1 p (.ins C dx (pf1 q1)))
    generalize upd H1 p (.ins C dx (pf1 q1)) = B1 at *
    refine ⟨_, rfl, p, C, dx, _, _, rfl, p1, L.cl, L.nC, pf1_c q1, _, rfl, q1, ks, cols, kds, F, xs, rfl, c1, sB1 _ _ hks, (fun i k x e1 e2 => (hk i k x e1 e2).mono (Same.refl F) sB1), sF.trans sB1, gc.len, gk, nd, kl, kxl, fun x hx' => ?_⟩
    obtain ⟨t, nm, st, sp, sums, B⟩ := bad x hx'
    exact ⟨t, nm, st, sp, sums, B.mono sB1⟩
end
end Pz
namespace Pz
open PySem L2
open PyProof.Rows (envOfC)
/-! ### _law_said, a table being wrong -/
/-- which of the three it is -/
inductive WhichE
  | n | u | s
def WhichE.a (c : ECs) : WhichE → Addr
  | .n => c.n
  | .u => c.u
  | .s => c.s
def WhichE.t : WhichE → Str
  | .n => "NoState"
  | .u => "UnknownColumn"
  | .s => "InvalidStart"
/-- what is wrong, told by its class and value -/
inductive Wr (cols : List Str) (nm : Str) (sums : List (List (Str × Int))) : WhichE → Str → Prop
  | none (h : sums = []) : Wr cols nm sums .n nm
  | odd {i : Nat} {tb : List (Str × Int)} {s : Str} (h : sums[i]? = some tb) (f : ∀ t ∈ sums.take i, Fits cols t) (o : Odd cols tb s) : Wr cols nm sums .u s
  | start {tb : List (Str × Int)} (f : ∀ t ∈ sums, Fits cols t) (h : sums[0]? = some tb) (z : cols.map (look tb) ≠ zeros cols) : Wr cols nm sums .s nm
theorem Wr.to {cols : List Str} {nm : Str} {sums : List (List (Str × Int))} {e : WhichE} {s : Str} (c : ECs) (h : Wr cols nm sums e s) : Wrong cols nm c sums (e.a c) s := by
  cases h with
  | none h => exact .none h
  | odd h f o => exact .odd h f o
  | start f h z => exact .start f h z
theorem Wr.uniq {cols : List Str} {nm : Str} {sums : List (List (Str × Int))} {e : WhichE} {s : Str} {c : ECs} {a : Addr} {s' : Str} (h : Wr cols nm sums e s) (w : Wrong cols nm c sums a s') : a = e.a c ∧ s' = s := by
  cases h with
  | none h =>
    cases w with
    | none _ => exact ⟨rfl, rfl⟩
    | odd h' _ _ => rw [h] at h'; simp at h'
    | start _ h' _ => rw [h] at h'; simp at h'
  | odd h f o =>
    cases w with
    | none h' => rw [h'] at h; simp at h
    | odd h' f' o' => exact ⟨rfl, (first_uniq h f o h' f' o').symm⟩
    | start f' h' _ => exact (odd_not o (f' _ (List.mem_of_getElem? h))).elim
  | start f h z =>
    cases w with
    | none h' => rw [h'] at h; simp at h
    | odd h' f' o' => exact (odd_not o' (f _ (List.mem_of_getElem? h'))).elim
    | start _ _ _ => exact ⟨rfl, rfl⟩
/-- what is handed is spoiled: the tables of a kind -/
def SpoilT (H F : Hp) (cols : List Str) (hk : Addr) (e : WhichE) (s : Str) : Prop := GoodC cols ∧ ∃ (kds : List KD) (xs : List V) (t : Addr) (nm : Str) (st sp : Addr) (sums : List (List (Str × Int))), H hk = some (.lst xs) ∧ (∀ (i : Nat) k x, kds[i]? = some k → xs[i]? = some x → HK F H k x) ∧ kds.length < xs.length ∧ Same F H ∧
  (∀ k ∈ kds, GoodK cols k) ∧ (kds.map (·.name)).Nodup ∧ kds.length ≤ 20 ∧ xs[kds.length]? = some (.ref t) ∧ H t = some (.tup [.str nm, .ref st, .ref sp]) ∧
  isNm nm = true ∧ nm ∉ kds.map (·.name) ∧ R H (.list (sums.map dSum)) (.ref st) ∧ sums.length ≤ 40 ∧ (∀ tb ∈ sums, tb.length < 64) ∧ Wr cols nm sums e s
def dErrT (e : WhichE) (s : Str) : PyData := .tuple [.str e.t, .str s]
def spSaid3 : Sp := fun vs H Q _ => ∃ (th hc hk hh : Addr) (cols : List Str) (F : Hp) (e : WhichE) (s : Str), vs = [.ref th] ∧ H th = some (.tup [.ref hc, .ref hk, .ref hh]) ∧ H hc = some (.lst (cols.map V.str)) ∧
  SpoilT H F cols hk e s ∧ ∀ (q : Addr) (H' : Hp), Same H H' → R H' (dErrT e s) (.ref q) → Q (.ref q) H'
theorem R_two {F : Hp} {x y : PyData} {a b : V} {t : Addr} (h : F t = some (.tup [a, b])) (h1 : R F x a) (h2 : R F y b) : R F (.tuple [x, y]) (.ref t) := by
  simp only [R, RA]
  exact ⟨t, _, rfl, h, a, _, rfl, h1, b, _, rfl, h2, rfl⟩
section
variable {P : Program} {w : World} {K : PySem.W.Frag} {mg : Str → Option Value} {base : Heap} {C : Addr} {c : ECs}
theorem ok_law_said (TT : Txt2 K mg) (L : PlanT K mg C) (EE : Errs K mg c) : Fn P w K mg base 8 "_law_said" ["handed"] spSaid3 := by
  have T := TT.t
  have G_PlaninitX := ok_Plan_initX (P := P) (w := w) (base := base) T L EE
  refine TT.d_law_said.fn sc_law_said (fun vs H Q E h => ?_) (fun cdv A outer f s H vs Q E hr h => ?_)
  · obtain ⟨_, _, _, _, _, _, _, _, rfl, _⟩ := h; rfl
  · obtain ⟨th, hc, hk, hh, cols, F, e, z, rfl, h1, h2, which, q⟩ := h
    refine ⟨_, (pss_cons (ps_set (i := 1) sc_law_said.nd rfl (Or.inl rfl) pe_non) (pss_cons (ps_try_all (i := 2) rfl rfl sc_law_said.nd rfl rfl takes0 (fun W more xe tk _ => (pss_one (ps_expr (pe_mkS G_PlaninitX (hr.mono (by decide)) tk (by rfl) (pa_cons (pe_ix (ix_tupK (K := K)) (pv 0) pe_int (fun _ _ => rfl)) (pa_cons (pe_ix (ix_tupK (K := K)) (pv 0) pe_int (fun _ _ => rfl)) (pa_cons (pe_ix (ix_tupK (K := K)) (pv 0) pe_int (fun _ _ => rfl)) pa_nil))))))) (.cons ⟨by rfl, by decide, .inl EE.eInvalidName.mgC⟩ (fun a ob cls d more hz hf => (pss_one (ps_set (i := 1) sc_law_said.nd rfl (Or.inl rfl) (pe_tup (pa_cons pe_str (pa_cons (pe_xf EE.eInvalidName.xf EE.eInvalidName.noV hz hf (pv 2)) pa_nil)))))) (.cons ⟨by rfl, by decide, .inl EE.eDoubleName.mgC⟩ (fun a ob cls d more hz hf => (pss_one (ps_set (i := 1) sc_law_said.nd rfl (Or.inl rfl) (pe_tup (pa_cons pe_str (pa_cons (pe_xf EE.eDoubleName.xf EE.eDoubleName.noV hz hf (pv 2)) pa_nil)))))) (.cons ⟨by rfl, by decide, .inl EE.eNoState.mgC⟩ (fun a ob cls d more hz hf => (pss_one (ps_set (i := 1) sc_law_said.nd rfl (Or.inl rfl) (pe_tup (pa_cons pe_str (pa_cons (pe_xf EE.eNoState.xf EE.eNoState.noV hz hf (pv 2)) pa_nil)))))) (.cons ⟨by rfl, by decide, .inl EE.eUnknownColumn.mgC⟩ (fun a ob cls d more hz hf => (pss_one (ps_set (i := 1) sc_law_said.nd rfl (Or.inl rfl) (pe_tup (pa_cons pe_str (pa_cons (pe_xf EE.eUnknownColumn.xf EE.eUnknownColumn.noV hz hf (pv 2)) pa_nil)))))) (.cons ⟨by rfl, by decide, .inl EE.eInvalidStart.mgC⟩ (fun a ob cls d more hz hf => (pss_one (ps_set (i := 1) sc_law_said.nd rfl (Or.inl rfl) (pe_tup (pa_cons pe_str (pa_cons (pe_xf EE.eInvalidStart.xf EE.eInvalidStart.noV hz hf (pv 2)) pa_nil)))))) (.cons ⟨by rfl, by decide, .inl EE.eInvalidStep.mgC⟩ (fun a ob cls d more hz hf => (pss_one (ps_set (i := 1) sc_law_said.nd rfl (Or.inl rfl) (pe_tup (pa_cons pe_str (pa_cons (pe_xf EE.eInvalidStep.xf EE.eInvalidStep.noV hz hf (pv 2)) pa_nil)))))) (.cons ⟨by rfl, by decide, .inl EE.eDoubleStep.mgC⟩ (fun a ob cls d more hz hf => (pss_one (ps_set (i := 1) sc_law_said.nd rfl (Or.inl rfl) (pe_tup (pa_cons pe_str (pa_cons (pe_xf EE.eDoubleStep.xf EE.eDoubleStep.noV hz hf (pv 2)) pa_nil)))))) (.cons ⟨by rfl, by decide, .inl EE.ePartError.mgC⟩ (fun a ob cls d more hz hf => (pss_one (ps_set (i := 1) sc_law_said.nd rfl (Or.inl rfl) (pe_tup (pa_cons pe_str (pa_cons (pe_xf EE.ePartError.xf EE.ePartError.noV hz hf (pv 2)) pa_nil)))))) .nil))))))))) (pss_one (ps_ret (pv 1))))), ?_⟩
    obtain ⟨gc, kds, xs, t, nm, st, sp, sums, a1, a2, a3, a4, a5, a6, a7, a8, a9, a10, a11, a12, a13, a14, wr⟩ := which
    refine ⟨_, rfl, th, _, _, _, rfl, rfl, SqT.of h1, rfl, _, rfl, th, _, _, _, rfl, rfl, SqT.of h1, rfl, _, rfl, th, _, _, _, rfl, rfl, SqT.of h1, rfl, fun x dx hx hdx ndx => ?_⟩
    refine ⟨H, x, dx, hc, hk, hh, cols, kds, F, xs, (by rfl), rfl, hx, hdx, ndx, h2, gc, a1, a2, a3, a4, a5, a6, a7, fun x' hx' => ?_⟩
    rw [a8] at hx'
    cases hx'
    refine ⟨t, nm, st, sp, sums, rfl, a9, a10, a11, a12, a13, a14, ⟨_, _, wr.to c⟩, fun a y w => ?_⟩
    obtain ⟨rfl, rfl⟩ := wr.uniq w
    clear w
    intro dd H1 s1 hd
    have szz : ∀ {a b : V}, [a, b].length ≤ sizeLine := fun {a b} => show 2 ≤ sizeLine by decide
    cases e with
    | n =>
      refine ⟨false, EE.xni, fun y => (nomatch y), fun _ => ⟨false, EE.xnd, fun y => (nomatch y), fun _ => ⟨true, EE.xnn, fun _ a ha => ?_, fun y => nomatch y⟩⟩⟩
      refine ⟨_, rfl, rfl, rfl, dd, _, _, rfl, hd, rfl, szz, fun x1 hx1 => ?_⟩
      exact ⟨_, rfl, q x1 _ (s1.trans (same_upd hx1)) (R_two upd_same (by simp only [R]; rfl) (by simp only [R]))⟩
    | u =>
      refine ⟨false, EE.xui, fun y => (nomatch y), fun _ => ⟨false, EE.xud, fun y => (nomatch y), fun _ => ⟨false, EE.xun, fun y => (nomatch y), fun _ => ⟨true, EE.xuu, fun _ a ha => ?_, fun y => nomatch y⟩⟩⟩⟩
      refine ⟨_, rfl, rfl, rfl, dd, _, _, rfl, hd, rfl, szz, fun x1 hx1 => ?_⟩
      exact ⟨_, rfl, q x1 _ (s1.trans (same_upd hx1)) (R_two upd_same (by simp only [R]; rfl) (by simp only [R]))⟩
    | s =>
      refine ⟨false, EE.xsi, fun y => (nomatch y), fun _ => ⟨false, EE.xsd, fun y => (nomatch y), fun _ => ⟨false, EE.xsn, fun y => (nomatch y), fun _ => ⟨false, EE.xsu, fun y => (nomatch y), fun _ => ⟨true, EE.xss, fun _ a ha => ?_, fun y => nomatch y⟩⟩⟩⟩⟩
      refine ⟨_, rfl, rfl, rfl, dd, _, _, rfl, hd, rfl, szz, fun x1 hx1 => ?_⟩
      exact ⟨_, rfl, q x1 _ (s1.trans (same_upd hx1)) (R_two upd_same (by simp only [R]; rfl) (by simp only [R]))⟩
end
end Pz
namespace Pz
open PySem L2
open PyProof.Rows (envOfC)
/-! ### a number put into a table; words that are no names -/
def putTb (tb : List (Str × Int)) (c : Str) (v : Int) : List (Str × Int) :=
  if (tb.any fun p => decide (p.1 = c)) = true then tb.map (fun p => if p.1 = c then (p.1, v) else p) else tb ++ [(c, v)]
theorem eSum_put (tb : List (Str × Int)) (c : Str) (v : Int) : putK (eSum tb) (Sum.inr c) (.int v) = eSum (putTb tb c v) := by
  have e : (eSum tb).any (fun kv => decide (kv.1 = (Sum.inr c : Key))) = tb.any fun p => decide (p.1 = c) := by
    unfold eSum
    rw [List.any_map]
    congr 1
    funext p
    exact decide_eq_decide.mpr ⟨fun z => Sum.inr.inj z, fun z => by show (Sum.inr p.1 : Key) = _; rw [z]⟩
  unfold putK putTb
  rw [e]
  by_cases h : (tb.any fun p => decide (p.1 = c)) = true
  · rw [if_pos h, if_pos h]
    unfold eSum
    rw [List.map_map, List.map_map]
    refine List.map_congr_left fun p _ => ?_
    show (if (Sum.inr p.1 : Key) = Sum.inr c then ((Sum.inr p.1 : Key), V.int v) else (Sum.inr p.1, V.int p.2)) = _
    by_cases hp : p.1 = c
    · simp [hp]
    · have : ¬ (Sum.inr p.1 : Key) = Sum.inr c := fun z => hp (Sum.inr.inj z)
      rw [if_neg this]
      simp [hp]
  · rw [if_neg h, if_neg h]
    simp [eSum]
theorem look_put (tb : List (Str × Int)) (c : Str) (v : Int) (c' : Str) : look (putTb tb c v) c' = if c' = c then v else look tb c' := by
  unfold putTb
  by_cases h : (tb.any fun p => decide (p.1 = c)) = true
  · rw [if_pos h]
    by_cases e : c' = c
    · subst e
      rw [if_pos rfl]
      induction tb with
      | nil => simp at h
      | cons p r ih =>
        by_cases hp : p.1 = c'
        · simp [look, hp]
        · have h' : (r.any fun p => decide (p.1 = c')) = true := by simpa [hp] using h
          have := ih h'
          unfold look at this ⊢
          have hd : decide (p.1 = c') = false := decide_eq_false hp
          rw [List.map_cons, if_neg hp, List.find?_cons]
          simp only [hd]
          exact this
    · rw [if_neg e]
      clear h
      induction tb with
      | nil => rfl
      | cons p r ih =>
        unfold look at ih ⊢
        by_cases hp : p.1 = c
        · have hp' : ¬ p.1 = c' := fun z => e (z.symm.trans hp)
          simp only [List.map_cons, if_pos hp, List.find?_cons, hp', decide_false] at ih ⊢
          exact ih
        · by_cases hp' : p.1 = c'
          · simp [hp, hp', e]
          · simp only [List.map_cons, if_neg hp, List.find?_cons, hp', decide_false] at ih ⊢
            exact ih
  · rw [if_neg h]
    refine look_snoc fun p hp z => h ?_
    rw [List.any_eq_true]
    exact ⟨p, hp, by simp [z]⟩
theorem keys_put {tb : List (Str × Int)} {c : Str} {v : Int} {s : Str} : s ∈ keys (putTb tb c v) ↔ s = c ∨ s ∈ keys tb := by
  unfold putTb keys
  by_cases h : (tb.any fun p => decide (p.1 = c)) = true
  · rw [if_pos h, List.map_map]
    have e : (tb.map ((fun x => x.1) ∘ fun p => if p.1 = c then (p.1, v) else p)) = tb.map (·.1) := List.map_congr_left fun p _ => by
      show (if p.1 = c then (p.1, v) else p).1 = p.1
      by_cases hp : p.1 = c <;> simp [hp]
    rw [e]
    refine ⟨.inr, fun z => z.elim (fun z => ?_) id⟩
    rw [List.any_eq_true] at h
    obtain ⟨p, hp, ep⟩ := h
    rw [z]
    exact List.mem_map.mpr ⟨p, hp, by simpa using ep⟩
  · rw [if_neg h]
    simp [or_comm]
theorem len_put (tb : List (Str × Int)) (c : Str) (v : Int) : (putTb tb c v).length ≤ tb.length + 1 := by
  unfold putTb
  split <;> simp
theorem vals_put {tb : List (Str × Int)} {c : Str} {v : Int} {q : Int → Prop} (h : ∀ p ∈ tb, q p.2) (hv : q v) : ∀ p ∈ putTb tb c v, q p.2 := by
  unfold putTb
  split
  · intro p hp
    obtain ⟨p0, h0, rfl⟩ := List.mem_map.mp hp
    by_cases e : p0.1 = c
    · simp [e, hv]
    · simp [e, h p0 h0]
  · intro p hp
    rcases List.mem_append.mp hp with hp | hp
    · exact h p hp
    · have : p = (c, v) := by simpa using hp
      rw [this]; exact hv
/-- a short word -/
def OkW (s : Str) : Prop := PyData.strOk s = true ∧ s.length ≤ 9
theorem okw_nm {s : Str} (h : isNm s = true) : OkW s := ⟨nm_ok h, Nat.le_trans (isNm_len h).2 (by decide)⟩
theorem okw_sp {s : Str} (h : isNm s = true) : OkW (s ++ " ") := by
  refine ⟨?_, by rw [len_app]; have := (isNm_len h).2; exact Nat.add_le_add this (show (" " : Str).length ≤ 1 by decide)⟩
  have h1 := nm_ok h
  unfold PyData.strOk at h1 ⊢
  show (s.cps ++ (" " : Str).cps).all _ = true
  rw [Array.all_append, h1]
  decide +kernel
theorem sp_not (s : Str) : isNm (s ++ " ") = false := by
  rw [← Bool.not_eq_true]
  intro h
  unfold isNm at h
  simp only [Bool.and_eq_true, decide_eq_true_eq, List.all_eq_true] at h
  have := h.2 32 (by rw [cps_app]; exact List.mem_append_right _ (by decide +kernel))
  revert this
  decide +kernel
theorem not_in {ss : List Str} (h : ∀ x ∈ ss, isNm x = true) {s : Str} (hs : isNm s = false) : s ∉ ss := fun z => by
  rw [h s z] at hs; cases hs
end Pz
namespace Pz
open PySem L2
open PyProof.Rows (envOfC)
/-- the table with strange columns -/
structure Odds (cols : List Str) (ns : List Int) (tb : List (Str × Int)) (ss : List Str) : Prop where
  len : tb.length ≤ 20 + ss.length
  odd : ∀ s ∈ keys tb, s ∉ cols → s ∈ ss
  st : ∀ s ∈ ss, s ∈ keys tb ∧ s ∉ cols
  val : cols.map (look tb) = ns
  num : ∀ q ∈ tb, Nm q.2
  kw : ∀ s ∈ keys tb, OkW s
theorem Odds.put {cols : List Str} {ns : List Int} {tb : List (Str × Int)} {ss : List Str} (h : Odds cols ns tb ss) {c : Str} {v : Int} (hc : c ∉ cols) (kc : OkW c) (hv : Nm v) : Odds cols ns (putTb tb c v) (ss ++ [c]) := by
  refine ⟨by rw [List.length_append]; have := len_put tb c v; have := h.len; simp; omega, fun s hs hn => ?_, fun s hs => ?_, ?_, vals_put h.num hv, fun s hs => (keys_put.mp hs).elim (fun z => by rw [z]; exact kc) (h.kw s)⟩
  · rcases keys_put.mp hs with z | z
    · simp [z]
    · exact List.mem_append_left _ (h.odd s z hn)
  · rcases List.mem_append.mp hs with z | z
    · exact ⟨keys_put.mpr (.inr (h.st s z).1), (h.st s z).2⟩
    · have : s = c := by simpa using z
      rw [this]
      exact ⟨keys_put.mpr (.inl rfl), hc⟩
  · rw [← h.val]
    refine List.map_congr_left fun x hx => ?_
    rw [look_put, if_neg (fun (z : x = c) => hc (z ▸ hx))]
theorem Odds.of {cols : List Str} {ns : List Int} {tb : List (Str × Int)} (g : GoodC cols) (h : SumOf cols ns tb) (hn : ∀ x ∈ ns, Nm x) : Odds cols ns tb [] := by
  refine ⟨by have := h.len; have := g.len; simp; omega, fun s hs hn => ?_, (fun s hs => nomatch hs), h.val, fun q hq => hn _ (h.num q hq), fun s hs => ?_⟩
  · obtain ⟨q, hq, rfl⟩ := List.mem_map.mp hs
    exact absurd (h.key q hq) hn
  · obtain ⟨q, hq, rfl⟩ := List.mem_map.mp hs
    exact okw_nm (g.nm _ (h.key q hq))
theorem head_or {names : List Str} {x : Str} (h : ∀ s ∈ names, isNm s = true) (hx : isNm x = true) : ∃ z, isNm z = true ∧ atI (names.map V.str ++ [.str x]) 0 = some (.str z) := by
  cases names with
  | nil => exact ⟨x, hx, atI_nat (j := 0) rfl⟩
  | cons a l => exact ⟨a, h a List.mem_cons_self, atI_nat (j := 0) rfl⟩
theorem shw_tab {tb : List (Str × Int)} (h : ∀ s ∈ keys tb, OkW s) (hn : ∀ q ∈ tb, NumOk q.2) (l : tb.length ≤ 41) : Shw 820 1 (dSum tb) :=
  (shw_dict (m := 9) (n := 0) (l := 41) (fun d hd => by
    obtain ⟨q, hq, rfl⟩ := List.mem_map.mp hd
    have := h q.1 (List.mem_map.mpr ⟨q, hq, rfl⟩)
    exact ⟨shw_str this.1 this.2, (shw_int (hn q hq)).mono (by decide) (Nat.le_refl _)⟩) (by rw [List.length_map]; exact l)).mono (by decide) (Nat.le_refl _)
end Pz
namespace Pz
open PySem L2
open PyProof.Rows (envOfC)
/-! ### _law_strange_columns -/
def spStrange : Sp := fun vs H Q _ => ∃ (w c : Addr) (cols : List Str) (N : Nat), vs = [.ref w, .ref c] ∧ H c = some (.lst (cols.map V.str)) ∧ Wl H w N ∧ N ≤ 1000000 ∧ c ≠ w ∧ cols.length ≤ 20 ∧ (∀ x ∈ cols, isNm x = true) ∧
  ∀ (p : Addr) (ss : List Str) (H' : Hp), H p = none → 0 < ss.length → ss.length ≤ 3 → (∀ s ∈ ss, OkW s ∧ s ∉ cols) → Sm w H H' → Wl H' w (N + 400) → H' p = some (.lst (ss.map V.str)) → Q (.ref p) H'
theorem odd6 : ∀ s ∈ (["", "Held", "a b", "zzzzzzzzz", "held ", "0"] : List Str), OkW s ∧ isNm s = false := by
  intro s hs
  simp only [List.mem_cons, List.not_mem_nil, or_false] at hs
  rcases hs with rfl | rfl | rfl | rfl | rfl | rfl <;> exact ⟨⟨by decide +kernel, by decide +kernel⟩, by decide +kernel⟩
section
variable {P : Program} {w : World} {K : PySem.W.Frag} {mg : Str → Option Value} {base : Heap}
theorem ok_law_strange (TT : Txt2 K mg) : Fn P w K mg base 3 "_law_strange_columns" ["well", "columns"] spStrange := by
  have T := TT.t
  have G_law_draw := ok_law_draw (P := P) (w := w) (base := base) T
  have G_law_word := ok_law_word (P := P) (w := w) (base := base) T
  refine TT.d_law_strange_columns.fn sc_law_strange_columns (fun vs H Q E h => ?_) (fun cdv A outer f s H vs Q E hr h => ?_)
  · obtain ⟨_, _, _, _, rfl, _⟩ := h; rfl
  · obtain ⟨w, c, cols, N, rfl, hc, hw, hN, ncw, cl, cn, q⟩ := h
    refine ⟨_, (pss_cons (ps_set (i := 2) sc_law_strange_columns.nd rfl (Or.inl rfl) (pe_lst pa_nil)) (pss_cons (ps_for PassesOwn.never rfl (pi_range1 rfl T.z_range (pa_cons (pe_op op_add pe_int (pe_fn G_law_draw (hr.mono (by decide)) (by rfl) (pa_cons (pv 0) (pa_cons pe_int pa_nil)))) pa_nil)) (pg_name (i := 3) sc_law_strange_columns.nd rfl (Or.inl rfl)) (pss_cons (ps_set (i := 4) sc_law_strange_columns.nd rfl (Or.inl rfl) (pe_lst (pa_cons pe_str (pa_cons pe_str (pa_cons pe_str (pa_cons pe_str (pa_cons pe_str (pa_cons pe_str pa_nil)))))))) (pss_one (ps_if (pt_cmpR op_eq (pe_fn G_law_draw (hr.mono (by decide)) (by rfl) (pa_cons (pv 0) (pa_cons pe_int pa_nil))) pe_int (nomark _)) (pss_one (ps_expr (pe_bm PySem.F.plainAttrs_list PySem.F.slot_list_append PySem.F.type_list_append mt_append (pv 2) (pa_cons (pe_ix ix_list (pv 4) (pe_fn G_law_draw (hr.mono (by decide)) (by rfl) (pa_cons (pv 0) (pa_cons pe_int pa_nil))) (fun _ _ => rfl)) pa_nil)))) (pss_one (ps_expr (pe_bm PySem.F.plainAttrs_list PySem.F.slot_list_append PySem.F.type_list_append mt_append (pv 2) (pa_cons (pe_fn G_law_word (hr.mono (by decide)) (by rfl) (pa_cons (pv 0) (pa_cons (pv 1) pa_nil))) pa_nil)))))))) (pss_one (ps_ret (pv 2))))), ?_⟩
    refine ⟨Nat.zero_le _, fun D hD => ?_⟩
    have s1 := same_upd (o := .lst []) hD
    have nDw : D ≠ w := fun z => hw.ne (z ▸ hD)
    have nDc : D ≠ c := fun z => by rw [z, hc] at hD; cases hD
    refine ⟨_, rfl, w, 3, _, (by rfl), hw.same s1, by omega, by decide, by decide, fun r0 H1 r00 r01 s2 w2 => ?_⟩
    have vD : H1 D = some (.lst (([] : List Str).map V.str)) := s2 _ _ nDw upd_same
    have sm1 : Sm w H H1 := (Sm.same s1).trans s2
    refine ⟨_, _, rfl, rfl, _, rfl, by omega, by omega, for_range (lo := 0) (n := (1 + r0).toNat)
      (fun i σ H' => ∃ (v3 v4 : Option V) (ss : List Str), σ = [some (.ref w), some (.ref c), some (.ref D), v3, v4] ∧ Sm w H H' ∧ Wl H' w (N + 1 + 30 * i) ∧ H' D = some (.lst (ss.map V.str)) ∧ ss.length = i ∧ ∀ s ∈ ss, OkW s ∧ s ∉ cols)
      ⟨none, none, [], rfl, sm1, w2.mono (by omega), vD, rfl, (fun s h => nomatch h)⟩ ?_ ?_⟩
    · rintro i σ H2 hi ⟨v3, v4, ss, rfl, sm2, wl2, v2, sl, ok⟩
      have hi3 : i < 3 := by omega
      refine ⟨(show 6 ≤ sizeLine by decide), fun po hpo => ?_⟩
      have s3 := same_upd (o := .lst [.str "", .str "Held", .str "a b", .str "zzzzzzzzz", .str "held ", .str "0"]) hpo
      have v3o : (upd H2 po (.lst [.str "", .str "Held", .str "a b", .str "zzzzzzzzz", .str "held ", .str "0"])) po = some (.lst ((["", "Held", "a b", "zzzzzzzzz", "held ", "0"] : List Str).map V.str)) := upd_same
      have sm3 := sm2.trans (Sm.same s3)
      have wl3 := wl2.same s3
      have v3D := s3 _ _ v2
      have npo : po ≠ w := fun z => wl2.ne (z ▸ hpo)
      generalize upd H2 po (.lst [.str "", .str "Held", .str "a b", .str "zzzzzzzzz", .str "held ", .str "0"]) = H3 at *
      refine ⟨_, rfl, w, 2, _, (by rfl), wl3, by omega, by decide, by decide, fun r4 H4 r40 r41 s4 w4 => ?_⟩
      have v4D := s4 _ _ nDw v3D
      have v4o := s4 _ _ npo v3o
      have sm4 := sm3.trans s4
      refine ⟨rfl, _, rfl, ?_⟩
      have fin : ∀ (x : Str) (H5 : Hp), OkW x → x ∉ cols → Sm w H H5 → Wl H5 w (N + 1 + 30 * i + 25) → H5 D = some (.lst (ss.map V.str)) → ∃ (v3 v4 : Option V) (ss' : List Str), ([some (.ref w), some (.ref c), some (.ref D), some (.int (0 + (i : Int))), some (.ref po)] : L2.St) = [some (.ref w), some (.ref c), some (.ref D), v3, v4] ∧ Sm w H (upd H5 D (.lst (ss.map V.str ++ [.str x]))) ∧ Wl (upd H5 D (.lst (ss.map V.str ++ [.str x]))) w (N + 1 + 30 * (i + 1)) ∧ (upd H5 D (.lst (ss.map V.str ++ [.str x]))) D = some (.lst (ss'.map V.str)) ∧ ss'.length = i + 1 ∧ ∀ s ∈ ss', OkW s ∧ s ∉ cols := by
        intro x H5 h1 h2 h3 h4 h5
        refine ⟨_, _, ss ++ [x], rfl, h3.new hD, (h4.put nDw).mono (by omega), by rw [upd_same, List.map_append]; rfl, by simp [sl], fun s hs => ?_⟩
        rcases List.mem_append.mp hs with z | z
        · exact ok s z
        · rw [List.mem_singleton.mp z]; exact ⟨h1, h2⟩
      refine ite2 (fun _ => ?_) (fun _ => ?_)
      · refine ⟨_, rfl, .inl ⟨rfl, _, SqL.of v4D⟩, _, rfl, _, rfl, w, 6, _, (by rfl), w4, by omega, by decide, by decide, fun r5 H5 r50 r51 s5 w5 => ?_⟩
        obtain ⟨j, rfl⟩ := Int.eq_ofNat_of_zero_le r50
        have ej : (["", "Held", "a b", "zzzzzzzzz", "held ", "0"] : List Str)[j]? = some ((["", "Held", "a b", "zzzzzzzzz", "held ", "0"] : List Str)[j]'(by show j < 6; omega)) := List.getElem?_eq_getElem (by show j < 6; omega)
        generalize (["", "Held", "a b", "zzzzzzzzz", "held ", "0"] : List Str)[j]'(by show j < 6; omega) = x at ej
        have hx := odd6 x (List.mem_of_getElem? ej)
        have at_ : atI ((["", "Held", "a b", "zzzzzzzzz", "held ", "0"] : List Str).map V.str) (j : Int) = some (.str x) := atI_nat (by rw [List.getElem?_map, ej]; rfl)
        refine ⟨po, _, _, _, rfl, rfl, SqL.of (s5 _ _ npo v4o), at_, ?_⟩
        refine ⟨_, _, _, rfl, rfl, s5 _ _ nDw v4D, by rw [List.length_map]; exact small1000 (by omega), ?_⟩
        exact fin x H5 hx.1 (not_in cn hx.2) (sm4.trans s5) (w5.mono (by omega)) (s5 _ _ nDw v4D)
      · refine ⟨_, rfl, .inl ⟨rfl, _, SqL.of v4D⟩, _, rfl, _, rfl, w, c, cols, _, (by rfl), sm4 _ _ ncw hc, w4, by omega, by omega, cn, fun x H5 hx nx s5 w5 => ?_⟩
        refine ⟨_, _, _, rfl, rfl, s5 _ _ nDw v4D, by rw [List.length_map]; exact small1000 (by omega), ?_⟩
        exact fin x H5 (okw_nm hx) nx (sm4.trans s5) (w5.mono (by omega)) (s5 _ _ nDw v4D)
    · rintro σ H2 ⟨v3, v4, ss, rfl, sm2, wl2, v2, sl, ok⟩
      exact ⟨_, rfl, q D ss H2 hD (by omega) (by omega) ok sm2 (wl2.mono (by omega)) v2⟩
end
end Pz
namespace Pz
open PySem L2
open PyProof.Rows (envOfC)
/-! ### _law_handed: the tables handed are each new -/
/-- new since H: each stands, none twice -/
def Fresh (H H' : Hp) (l : List Addr) : Prop := l.Nodup ∧ ∀ p ∈ l, H p = none ∧ H' p ≠ none
theorem ne_none {H H' : Hp} (s : ∀ o, H a = some o → ∃ o', H' a = some o') (h : H a ≠ none) : H' a ≠ none := by
  cases e : H a with
  | none => exact absurd e h
  | some o => obtain ⟨o', h'⟩ := s o e; rw [h']; exact fun z => nomatch z
theorem Fresh.step {H H1 H2 : Hp} {w : Addr} {l : List Addr} (h : Fresh H H1 l) (s : Sm w H1 H2) (hw : H w ≠ none) : Fresh H H2 l := ⟨h.1, fun p hp => ⟨(h.2 p hp).1, ne_none (fun o e => ⟨o, s p o (fun z => hw (by rw [← z]; exact (h.2 p hp).1)) e⟩) (h.2 p hp).2⟩⟩
theorem Fresh.put {H H1 : Hp} {D : Addr} {o : HO} {l : List Addr} (h : Fresh H H1 l) : Fresh H (upd H1 D o) l := ⟨h.1, fun p hp => ⟨(h.2 p hp).1, by
  by_cases c : p = D
  · rw [c, upd_same]; exact fun z => nomatch z
  · rw [upd_ne c]; exact (h.2 p hp).2⟩⟩
theorem Fresh.snoc {H H1 H2 : Hp} {w p : Addr} {l : List Addr} (h : Fresh H H1 l) (s : Sm w H1 H2) (hw : H w ≠ none) (hp : H1 p = none) (hp0 : H p = none) (h2 : H2 p ≠ none) : Fresh H H2 (l ++ [p]) := by
  have h' := h.step s hw
  refine ⟨List.nodup_append.mpr ⟨h.1, by simp, fun a ha b hb e => ?_⟩, fun x hx => ?_⟩
  · rw [List.mem_singleton.mp hb] at e
    exact (h.2 a ha).2 (by rw [e]; exact hp)
  · rcases List.mem_append.mp hx with z | z
    · exact h'.2 x z
    · rw [List.mem_singleton.mp z]; exact ⟨hp0, h2⟩
theorem Fresh.app {H H1 H2 : Hp} {w : Addr} {l m : List Addr} (h : Fresh H H1 l) (g : Fresh H1 H2 m) (s : Sm w H1 H2) (hw : H w ≠ none) (s0 : ∀ p, H1 p = none → H p = none) : Fresh H H2 (l ++ m) := by
  have h' := h.step s hw
  refine ⟨List.nodup_append.mpr ⟨h.1, g.1, fun a ha b hb e => ?_⟩, fun x hx => ?_⟩
  · exact (h.2 a ha).2 (by rw [e]; exact (g.2 b hb).1)
  · rcases List.mem_append.mp hx with z | z
    · exact h'.2 x z
    · exact ⟨s0 x (g.2 x z).1, (g.2 x z).2⟩
/-- where the tables handed stand -/
structure HDd (F' : Hp) (hh : Addr) (kas : List KB) (dss : List (List Addr)) (hs : List Addr) : Prop where
  len : dss.length = kas.length
  at_ : ∀ (j : Nat) a ds, kas[j]? = some a → dss[j]? = some ds → F' a.2.1 = some (.lst (ds.map V.ref))
  h_ : F' hh = some (.lst (hs.map V.ref))
  nd : (dss.flatten ++ hs).Nodup
section
variable {K : PySem.W.Frag} {w a D : Addr} {xs : List V} {g : TG} {te : TE} {vs : List Nat} {σ : St} {H F0 : Hp} {Qd : Hp → Prop} {N c : Nat}
/-- a comprehension whose items draw -/
theorem lc_dataW2 (Pd : Nat → PyData → Prop) (hz : xs.length ≤ 1000) (ha : H a = some (.lst xs)) (aw : a ≠ w) (hD : H D = none) (wl : Wl H w N) (sF : Same F0 H) (f0w : F0 w = none)
    (step : ∀ (i : Nat) (x : V) (F' H' : Hp) (Q' : VK), xs[i]? = some x → Sm w H H' → Wl H' w (N + c * i) → Gr F0 H F' H' → H' D ≠ none → F' D = none → F' w = none →
      (∀ p d F4 H4, H' p = none → H4 p ≠ none → Pd i d → Sm w H' H4 → Wl H4 w (N + c * i + c) → Gr F' H' F4 H4 → R F4 d (.ref p) → Q' (.ref p) H4) → g x (wipe σ vs) H' fun σ2 H2 => wipe σ2 vs = wipe σ vs ∧ te σ2 H2 Q')
    (hd : ∀ ds F' H' ps, Fresh H H' ps → ds.length = xs.length → (∀ (i : Nat) d, ds[i]? = some d → Pd i d) → Sm w H H' → Wl H' w (N + c * xs.length) → Gr F0 H F' H' → F' D = none → F' w = none → RA F' ds (ps.map V.ref) → H' D = some (.lst (ps.map V.ref)) → Qd H') :
    ∃ W : Nat → Nat → Hp → Prop, (∃ m, W 0 m (upd H D (.lst []))) ∧ ∀ i m H, W i m H →
      ((Itl K a).stop i H ∧ Qd H) ∨ ((Itl K a).go i H ∧ ∃ Nx : Hp → Prop, (∀ H', Nx H' → ∃ m', m' < m ∧ W (i + 1) m' H') ∧ ∀ x H', (Itl K a).yld i H x H' → g x (wipe σ vs) H' fun σ2 H2 => wipe σ2 vs = wipe σ vs ∧ tYes σ2 H2 fun b H3 =>
        if b = true then te σ2 H3 fun y H4 => ∃ acc, H4 D = some (.lst acc) ∧ acc.length < sizeLine ∧ Nx (upd H4 D (.lst (acc ++ [y]))) else Nx H3) := by
  have f0D : F0 D = none := same_none sF hD
  have nDw : D ≠ w := fun z => wl.ne (z ▸ hD)
  refine lc_list (tt := tYes) (fun i H' => ∃ ds F' ps, Fresh H H' ps ∧ ds.length = i ∧ (∀ (j : Nat) d, ds[j]? = some d → Pd j d) ∧ Sm w H H' ∧ Wl H' w (N + c * i) ∧ Gr F0 H F' H' ∧ F' D = none ∧ F' w = none ∧ RA F' ds (ps.map V.ref) ∧ H' D = some (.lst (ps.map V.ref)))
    ⟨[], F0, [], ⟨List.nodup_nil, fun p h => nomatch h⟩, rfl, (fun j d h => by simp at h), Sm.same (same_upd hD), (wl.new hD).mono (by omega), (Gr.refl sF).put f0D, f0D, f0w, by simp [RA], upd_same⟩ (fun i H' _ ⟨_, _, _, _, _, _, s1, _⟩ => SqL.of (s1 _ _ aw ha)) ?_ ?_
  · rintro i x H' hx ⟨ds, F', ps, fr, el, hp, s1, w1, gr, fD, fw, ra, hD'⟩
    have hi := (List.getElem?_eq_some_iff.mp hx).1
    have yl := RA.len ra
    have nD : H' D ≠ none := some_ne hD'
    exact step i x F' H' (fun y H4 => ∃ acc, H4 D = some (.lst acc) ∧ acc.length < sizeLine ∧ ∃ ds F' ps, Fresh H (upd H4 D (.lst (acc ++ [y]))) ps ∧ ds.length = i + 1 ∧ (∀ (j : Nat) d, ds[j]? = some d → Pd j d) ∧ Sm w H (upd H4 D (.lst (acc ++ [y]))) ∧ Wl (upd H4 D (.lst (acc ++ [y]))) w (N + c * (i + 1)) ∧ Gr F0 H F' (upd H4 D (.lst (acc ++ [y]))) ∧ F' D = none ∧ F' w = none ∧ RA F' ds (ps.map V.ref) ∧
        (upd H4 D (.lst (acc ++ [y]))) D = some (.lst (ps.map V.ref))) hx s1 w1 gr nD fD fw (by
      rintro p d F4 H4 hp0 hp4 pd s4 w4 g4 hR
      have f4D := g4.out fD nD
      have f4w := g4.out fw w1.ne
      rw [List.length_map] at yl
      have yl2 : (ps.map V.ref).length = ds.length := by rw [List.length_map]; exact yl
      have frn := (fr.snoc s4 wl.ne hp0 (s1.free w1.ne hp0) hp4).put (D := D) (o := .lst ((ps ++ [p]).map V.ref))
      rw [List.map_append] at frn
      refine ⟨ps.map V.ref, s4 _ _ nDw hD', small1000 (by omega), ds ++ [d], F4, ps ++ [p], frn, by simp [el], ?_, Sm.new (s1.trans s4) hD, ?_, (gr.trans g4 fun z hz => s1.free w1.ne hz).put f4D, f4D, f4w, by rw [List.map_append]; exact RA.snoc (RA.mono g4.le _ _ ra) hR, by rw [List.map_append]; exact upd_same⟩
      · intro j d' e
        by_cases hj : j < ds.length
        · rw [List.getElem?_append_left hj] at e; exact hp j d' e
        · have ej : j = i := by
            have := (List.getElem?_eq_some_iff.mp e).1
            simp at this
            omega
          subst ej
          rw [List.getElem?_append_right (by omega)] at e
          have e0 : j - ds.length = 0 := by omega
          rw [e0] at e
          have : d = d' := by simpa using e
          rw [← this]; exact pd
      · have := w4.put (o := .lst (ps.map V.ref ++ [.ref p])) nDw
        rw [Nat.mul_succ, ← Nat.add_assoc]
        exact this)
  · rintro H' ⟨ds, F', ps, fr, el, hp, s1, w1, gr, fD, fw, ra, hD'⟩
    exact hd ds F' H' ps fr el hp s1 w1 gr fD fw ra hD'
end
def spHanded2 : Sp := fun vs H Q _ => ∃ (w t0 : Addr) (cols : List Str) (kds : List KD) (chk : List (List Int)) (N : Nat) (G : Hp), vs = [.ref w, .ref t0] ∧ Same G H ∧ G w = none ∧ DIn G H w t0 cols kds chk ∧ GoodD cols kds chk ∧ Wl H w N ∧ N ≤ 1000000 ∧
  ∀ (th hc hk hh : Addr) (kds' : List KD) (chs : List (List (Str × Int))) (kas : List KB) (H' F' : Hp), kds'.length = kds.length → (∀ (j : Nat) k k', kds[j]? = some k → kds'[j]? = some k' → WithS cols k k') → chs.length = chk.length →
    (∀ (j : Nat) row tb, chk[j]? = some row → chs[j]? = some tb → SumOf cols row tb) → Sm w H H' → Wl H' w (N + 1000) → Gr emp H F' H' → HD G F' cols kds' chs th hc hk hh kas → (∃ dss hs, HDd F' hh kas dss hs) → Q (.ref th) H'
section
variable {P : Program} {w : World} {K : PySem.W.Frag} {mg : Str → Option Value} {base : Heap}
theorem ok_law_handed2 (T : Txt K mg) : Fn P w K mg base 3 "_law_handed" ["well", "data"] spHanded2 := by
  have G_law_sum := ok_law_sum (P := P) (w := w) (base := base) T
  refine T.d_law_handed.fn sc_law_handed (fun vs H Q E h => ?_) (fun cdv A outer f s H vs Q E hr h => ?_)
  · obtain ⟨_, _, _, _, _, _, _, rfl, _⟩ := h; rfl
  · obtain ⟨w, t0, cols, kds, chk, N, G, rfl, sG, gw, ⟨c, ks, ch, kas0, xsc, ht0, hc, hks, kl0, hk0, hch, hcr, chw⟩, good, hw, hN, q⟩ := h
    refine ⟨_, (pss_cons (ps_set (i := 2) sc_law_handed.nd rfl (Or.inl rfl) (pe_lst pa_nil)) (pss_cons (ps_for PassesOwn.never rfl (pi_list (pe_ix ix_tup (pv 1) pe_int (fun _ _ => rfl))) (pg_tup (by rfl) (pgs_cons (pg_name (i := 3) sc_law_handed.nd rfl (Or.inl rfl)) (pgs_cons (pg_name (i := 4) sc_law_handed.nd rfl (Or.inl rfl)) (pgs_cons (pg_name (i := 5) sc_law_handed.nd rfl (Or.inl rfl)) pgs_nil)))) (pss_one (ps_expr (pe_bm PySem.F.plainAttrs_list PySem.F.slot_list_append PySem.F.type_list_append mt_append (pv 2) (pa_cons (pe_tup (pa_cons (pv 3) (pa_cons (pe_lc (own := [("counts", 7)]) (g := gName 7) (by rfl) sc_law_handed.nd (pi_list (pv 4)) (blkOk_by (own := [("counts", 7)]) (N := ["well", "data", "kinds", "name", "states", "steps", "factors", "counts"]) (sc := defScope s_law_handed) (by decide +kernel)) (fun _ _ _ _ _ => pg_name (i := 7) sc_law_handed.nd rfl (by first | exact Or.inl rfl | exact Or.inr rfl)) (fun _ _ _ _ _ => pts_nil) (fun _ _ _ _ _ => (pe_fn G_law_sum (hr.mono (by decide)) (by rfl) (pa_cons (pv 0) (pa_cons (pe_ix (ix_tupK (K := K)) (pv 1) pe_int (fun _ _ => rfl)) (pa_cons (pv 7) pa_nil)))))) (pa_cons (pe_callTy call_list_of (by rfl) T.z_list (by decide +kernel) (pa_cons (pv 5) pa_nil)) pa_nil)))) pa_nil))))) (pss_one (ps_ret (pe_tup (pa_cons (pe_callTy call_list_of (by rfl) T.z_list (by decide +kernel) (pa_cons (pe_ix ix_tup (pv 1) pe_int (fun _ _ => rfl)) pa_nil)) (pa_cons (pv 2) (pa_cons (pe_lc (own := [("factors", 6)]) (g := gName 6) (by rfl) sc_law_handed.nd (pi_list (pe_ix ix_tup (pv 1) pe_int (fun _ _ => rfl))) (blkOk_by (own := [("factors", 6)]) (N := ["well", "data", "kinds", "name", "states", "steps", "factors", "counts"]) (sc := defScope s_law_handed) (by decide +kernel)) (fun _ _ _ _ _ => pg_name (i := 6) sc_law_handed.nd rfl (by first | exact Or.inl rfl | exact Or.inr rfl)) (fun _ _ _ _ _ => pts_nil) (fun _ _ _ _ _ => (pe_fn G_law_sum (hr.mono (by decide)) (by rfl) (pa_cons (pv 0) (pa_cons (pe_ix (ix_tupK (K := K)) (pv 1) pe_int (fun _ _ => rfl)) (pa_cons (pv 6) pa_nil)))))) pa_nil)))))))), ?_⟩
    have nw : ∀ b o, G b = some o → b ≠ w := fun b o e z => by rw [z, gw] at e; cases e
    refine ⟨Nat.zero_le _, fun D hD => ?_⟩
    have nDw : D ≠ w := fun z => hw.ne (z ▸ hD)
    have s1 := same_upd (o := .lst []) hD
    refine ⟨_, rfl, t0, _, _, _, rfl, rfl, SqT.of (s1 _ _ (sG _ _ ht0)), rfl, ks, rfl, ⟨_, SqL.of (s1 _ _ (sG _ _ hks))⟩, for_list (K := K) (a := ks) (xs := kas0.map fun a => V.ref a.1)
      (fun i σ H' => ∃ (dss : List (List Addr)), dss.length = i ∧ Fresh H H' dss.flatten ∧ ∃ v3 v4 v5 kds' kas F', (∀ (j : Nat) a ds, kas[j]? = some a → dss[j]? = some ds → F' a.2.1 = some (.lst (ds.map V.ref))) ∧ σ = [some (.ref w), some (.ref t0), some (.ref D), v3, v4, v5, none, none] ∧ kds'.length = i ∧ kas.length = i ∧ (∀ (j : Nat) k k', kds[j]? = some k → kds'[j]? = some k' → WithS cols k k') ∧ Sm w H H' ∧ Wl H' w (N + 80 * i) ∧
        H' D = some (.lst (kas.map fun a => V.ref a.1)) ∧ Gr emp H F' H' ∧ F' D = none ∧ F' w = none ∧ (∀ (j : Nat) a k, kas[j]? = some a → kds'[j]? = some k → HKa G F' k a) ∧ (kas.map fun a => a.2.1).Nodup ∧ (∀ a ∈ kas, ∀ a' ∈ kas, a.2.2 ≠ a'.2.1) ∧ (D :: kas.map fun a => a.2.2).Nodup)
      ⟨[], rfl, ⟨List.nodup_nil, fun p h => nomatch h⟩, none, none, none, [], [], emp, (fun j a ds e => by simp at e), rfl, rfl, rfl, (fun j k k' _ e => by simp at e), Sm.same s1, hw.new hD, upd_same, (Gr.refl (emp_same H)).put rfl, rfl, rfl, (fun j a k e => by simp at e), by simp, (fun a h => nomatch h), by simp⟩ (fun i σ H' _ h => ?_) ?_ ?_⟩
    · obtain ⟨_, _, _, _, _, _, _, _, _, _, _, _, _, _, sm, _⟩ := h
      exact SqL.of (sm _ _ (nw _ _ hks) (sG _ _ hks))
    · rintro i x σ H' hx ⟨dss, dsl, frs, v3, v4, v5, kds', kas, F', dat, rfl, kl', al', hws, sm, wl, hD', gr, fD, fw, ct, nd, sp_, sn⟩
      rw [List.getElem?_map] at hx
      obtain ⟨a0, ea0, rfl⟩ := Option.map_eq_some_iff.mp hx
      have hi : i < kds.length := by rw [← kl0]; exact (List.getElem?_eq_some_iff.mp ea0).1
      have eK : kds[i]? = some kds[i] := List.getElem?_eq_getElem hi
      have gk := good.k _ (List.getElem_mem hi)
      have hi8 := good.len
      generalize kds[i] = k at *
      obtain ⟨⟨ht, ⟨xs, hxs, hra⟩, hsteps⟩, hstw⟩ := hk0 i a0 k ea0 eK
      obtain ⟨_, zs, es, hzs, hza⟩ := R_list.mp hsteps
      cases es
      have hxl : xs.length = k.rows.length := by rw [RA.len hra, List.length_map]
      have rl := gk.len
      refine ⟨a0.1, _, rfl, SqT.of (sm _ _ (nw _ _ ht) (sG _ _ ht)), rfl, _, _, rfl, _, _, rfl, _, _, rfl, rfl, ?_⟩
      have hxs' := sm _ _ hstw hxs
      refine ⟨_, rfl, .inl ⟨rfl, _, SqL.of hD'⟩, _, rfl, _, rfl, a0.2.1, rfl, ⟨_, SqL.of hxs'⟩, fun D2 hD2 => ?_⟩
      refine lc_dataW2 (K := K) (a := a0.2.1) (xs := xs) (w := w) (N := N + 80 * i) (c := 2) (F0 := F') (fun j d => ∃ row tb, k.rows[j]? = some row ∧ SumOf cols row tb ∧ d = dSum tb) (by omega) hxs' hstw hD2 wl gr.sub fw (fun j x F2 H2 Q' hx2 s2 w2 g2 nD2 f2D f2w kk => ?_) (fun ds F2 H2 ps frp dl hds s2 w2 g2 f2D f2w ra2 hD2' => ?_)
      · have hj : j < k.rows.length := by rw [← hxl]; exact (List.getElem?_eq_some_iff.mp hx2).1
        have eR : k.rows[j]? = some k.rows[j] := List.getElem?_eq_getElem hj
        have gr' := gk.rows _ (List.getElem_mem hj)
        generalize k.rows[j] = row at *
        obtain ⟨x', hx', hR⟩ := RA.at hra (show (k.rows.map dInts)[j]? = some (dInts row) by rw [List.getElem?_map, eR]; rfl)
        rw [hx2] at hx'
        cases hx'
        obtain ⟨n, rfl, hn⟩ := R_dInts.mp hR
        have sH := sm.trans s2
        refine ⟨rfl, _, rfl, _, rfl, t0, _, _, _, rfl, rfl, SqT.of (sH _ _ (nw _ _ ht0) (sG _ _ ht0)), rfl, _, rfl, w, c, n, cols, row, N + 80 * i + 2 * j, (by rfl), sH _ _ (nw _ _ hc) (sG _ _ hc), sH _ _ (nw _ _ hn) (sG _ _ hn), w2, by omega, good.c.nd, good.c.len, gr'.1, nw _ _ hc, nw _ _ hn, fun p tb H4 hp so s4 w4 h4 => ?_⟩
        refine kk _ _ _ _ hp (some_ne h4) ⟨row, tb, eR, so, rfl⟩ s4 w4 (Gr.one (fun b o e => s4 b o (fun z => by rw [z, f2w] at e; cases e) (g2.sub b o e)) hp h4) (R_dSum.mpr ⟨p, rfl, upd_same⟩)
      obtain ⟨tbs, ed, tl, tv⟩ := SumOf_list (by omega) hds
      subst ed
      have sH := sm.trans s2
      have hzs' := sH _ _ (nw _ _ hzs) (sG _ _ hzs)
      refine ⟨_, rfl, a0.2.2, _, rfl, .inl (SqL.of hzs'), fun sp hsp => ?_⟩
      have s3 := same_upd (o := .lst zs) hsp
      refine ⟨(show 3 ≤ sizeLine by decide), fun t ht => ?_⟩
      have s4 := same_upd (o := .tup [.str k.name, .ref D2, .ref sp]) ht
      have hD4 := s4 _ _ (s3 _ _ (s2 _ _ nDw hD'))
      refine ⟨_, _, _, rfl, rfl, hD4, by rw [List.length_map]; exact small1000 (by omega), ?_⟩
      have g12 := gr.trans g2 (fun z hz => sm.free wl.ne hz)
      have f2Dm := g2.out fD (some_ne hD')
      have sm2free : ∀ {b}, H2 b = none → H' b = none := fun hb => s2.free w2.ne hb
      have hD20 : H D2 = none := sm.free wl.ne hD2
      have hsp0 : H sp = none := sH.free w2.ne hsp
      have ht00 : H t = none := sH.free w2.ne (same_none s3 ht)
      have gA := ((g12.snoc hD20 hD2').step s3).snoc (D := sp) (o := .lst zs) hsp0 upd_same
      have gB := (gA.step s4).snoc (D := t) (o := .tup [.str k.name, .ref D2, .ref sp]) ht00 upd_same
      have nDD2 : D ≠ D2 := fun z => by rw [← z, hD'] at hD2; cases hD2
      have nDsp : D ≠ sp := fun z => by have := s2 _ _ nDw hD'; rw [z, hsp] at this; cases this
      have nDt : D ≠ t := fun z => by have := s3 _ _ (s2 _ _ nDw hD'); rw [z, ht] at this; cases this
      have nspD2 : sp ≠ D2 := fun z => by rw [z, hD2'] at hsp; cases hsp
      have ntD2 : t ≠ D2 := fun z => by have := s3 _ _ hD2'; rw [← z, ht] at this; cases this
      have ntsp : t ≠ sp := fun z => by rw [z, upd_same] at ht; cases ht
      have w2ne : ∀ b, b = D2 ∨ b = sp ∨ b = t → b ≠ w := by
        rintro b (rfl | rfl | rfl)
        · exact fun z => by subst z; exact wl.ne hD2
        · exact fun z => by subst z; exact w2.ne hsp
        · exact fun z => by subst z; exact (w2.new hsp).ne ht
      have le2 : Same F2 (upd (upd (upd F2 D2 (.lst (ps.map V.ref))) sp (.lst zs)) t (.tup [.str k.name, .ref D2, .ref sp])) := fun b o e => by
        have hb := g2.sub _ _ e
        rw [upd_ne (fun z => by have := s3 _ _ hb; rw [z, ht] at this; cases this), upd_ne (fun z => by rw [z, hsp] at hb; cases hb), upd_ne (fun z => by rw [z, f2D] at e; cases e)]
        exact e
      have ex : ∀ a ∈ kas, H' a.2.1 ≠ none ∧ H' a.2.2 ≠ none := fun a ha => by
        obtain ⟨j, hj, ej⟩ := List.mem_iff_getElem.mp ha
        have e1 : kas[j]? = some a := by rw [List.getElem?_eq_getElem hj, ej]
        exact (ct j a _ e1 (List.getElem?_eq_getElem (show j < kds'.length by omega))).ex gr.sub
      have frn : Fresh H (upd (upd (upd H2 sp (.lst zs)) t (.tup [.str k.name, .ref D2, .ref sp])) D (.lst ((kas.map fun a => V.ref a.1) ++ [.ref t]))) (dss ++ [ps]).flatten := by
        rw [List.flatten_append, List.flatten_cons, List.flatten_nil, List.append_nil]
        exact ((frs.app frp s2 hw.ne fun p hp => sm.free wl.ne hp).step ((Sm.same (w := w) s3).trans (Sm.same s4)) hw.ne).put
      refine ⟨dss ++ [ps], by simp [dsl], frn, _, _, _, kds' ++ [{ k with sums := tbs }], kas ++ [(t, D2, sp)], _, fun j a ds e1 e2 => ?_, rfl, by simp [kl'], by simp [al'], ?_, ?_, ?_, ?_, gB.put ?_, ?_, ?_, ?_, ?_, ?_, ?_⟩
      · by_cases hj : j < kas.length
        · rw [List.getElem?_append_left hj] at e1
          rw [List.getElem?_append_left (by omega)] at e2
          exact le2 _ _ (g2.le _ _ (dat j a ds e1 e2))
        · rw [List.getElem?_append_right (by omega)] at e1 e2
          have e0 : j - kas.length = 0 := by
            cases q0 : j - kas.length with
            | zero => rfl
            | succ y => rw [q0] at e1; simp at e1
          have e00 : j - dss.length = 0 := by omega
          rw [e0] at e1
          rw [e00] at e2
          cases e1
          cases e2
          rw [upd_ne (Ne.symm ntD2), upd_ne (Ne.symm nspD2)]; exact upd_same
      · intro j k1 k2 e1 e2
        by_cases hj : j < kds'.length
        · rw [List.getElem?_append_left hj] at e2; exact hws j k1 k2 e1 e2
        · have ej : j = i := by
            have := (List.getElem?_eq_some_iff.mp e2).1
            simp at this
            omega
          subst ej
          rw [List.getElem?_append_right (by omega)] at e2
          have e0 : j - kds'.length = 0 := by omega
          rw [e0] at e2
          have e3 : ({ k with sums := tbs } : KD) = k2 := by simpa using e2
          rw [eK] at e1
          cases e1
          subst e3
          exact ⟨rfl, rfl, rfl, tl, tv⟩
      · exact Sm.new ((sH.trans (Sm.same s3)).trans (Sm.same s4)) hD
      · exact (((w2.same s3).same s4).put nDw).mono (by omega)
      · rw [upd_same, List.map_append]; rfl
      · rw [upd_ne nDt, upd_ne nDsp, upd_ne nDD2]; exact f2Dm
      · rw [upd_ne nDt, upd_ne nDsp, upd_ne nDD2]; exact f2Dm
      · rw [upd_ne (Ne.symm (w2ne t (.inr (.inr rfl)))), upd_ne (Ne.symm (w2ne sp (.inr (.inl rfl)))), upd_ne (Ne.symm (w2ne D2 (.inl rfl)))]; exact f2w
      · intro j a k2 e1 e2
        by_cases hj : j < kas.length
        · rw [List.getElem?_append_left hj] at e1
          rw [List.getElem?_append_left (by omega)] at e2
          exact ((ct j a k2 e1 e2).mono g2.le).mono le2
        · have ej : j = i := by
            have := (List.getElem?_eq_some_iff.mp e1).1
            simp at this
            omega
          subst ej
          rw [List.getElem?_append_right (by omega)] at e1 e2
          have e0 : j - kas.length = 0 := by omega
          have e00 : j - kds'.length = 0 := by omega
          rw [e0] at e1
          rw [e00] at e2
          have e3 : (t, D2, sp) = a := by simpa using e1
          have e4 : ({ k with sums := tbs } : KD) = k2 := by simpa using e2
          subst e3
          subst e4
          refine ⟨upd_same, R_list.mpr ⟨D2, ps.map V.ref, rfl, ?_, RA.mono le2 _ _ ra2⟩, zs, ?_, hza⟩
          · rw [upd_ne (Ne.symm ntD2), upd_ne (Ne.symm nspD2)]; exact upd_same
          · rw [upd_ne (Ne.symm ntsp)]; exact upd_same
      · rw [List.map_append, List.nodup_append]
        refine ⟨nd, by simp, ?_⟩
        intro x hx y hy e
        have hy' : y = D2 := by simpa using hy
        obtain ⟨a, ha, rfl⟩ := List.mem_map.mp hx
        exact (ex a ha).1 (by rw [e, hy']; exact hD2)
      · intro a ha a' ha' e
        have hsp2 : ∀ b, H' b ≠ none → b ≠ sp := fun b hb z => by subst z; exact hb (sm2free hsp)
        rcases List.mem_append.mp ha with ha | ha
        · rcases List.mem_append.mp ha' with ha' | ha'
          · exact sp_ a ha a' ha' e
          · rw [List.mem_singleton.mp ha'] at e
            exact (ex a ha).2 (by rw [e]; exact hD2)
        · rw [List.mem_singleton.mp ha] at e
          rcases List.mem_append.mp ha' with ha' | ha'
          · exact hsp2 _ (ex a' ha').1 e.symm
          · rw [List.mem_singleton.mp ha'] at e
            exact nspD2 e
      · rw [List.map_append]
        show ((D :: kas.map fun a => a.2.2) ++ [sp]).Nodup
        rw [List.nodup_append]
        refine ⟨sn, by simp, ?_⟩
        intro x hx y hy e
        have hy' : y = sp := by simpa using hy
        rw [hy'] at e
        rcases List.mem_cons.mp hx with z | z
        · exact nDsp (z.symm.trans e)
        · obtain ⟨a, ha, rfl⟩ := List.mem_map.mp z
          exact (ex a ha).2 (by rw [e]; exact sm2free hsp)
    · rintro σ H' ⟨dss, dsl, frs, v3, v4, v5, kds', kas, F', dat, rfl, kl', al', hws, sm, wl, hD', gr, fD, fw, ct, nd, sp_, sn⟩
      rw [List.length_map] at kl' al' wl dsl
      have hi8 := good.len
      have hch' := sm _ _ chw hch
      refine ⟨_, rfl, t0, _, _, _, rfl, rfl, SqT.of (sm _ _ (nw _ _ ht0) (sG _ _ ht0)), rfl, c, _, rfl, .inl (SqL.of (sm _ _ (nw _ _ hc) (sG _ _ hc))), fun hc2 hhc => ?_⟩
      have s2 := same_upd (o := .lst (cols.map V.str)) hhc
      have hch2 := s2 _ _ hch'
      refine ⟨_, rfl, _, rfl, t0, _, _, _, rfl, rfl, SqT.of (s2 _ _ (sm _ _ (nw _ _ ht0) (sG _ _ ht0))), rfl, ch, rfl, ⟨_, SqL.of hch2⟩, fun D3 hD3 => ?_⟩
      have hxl : xsc.length = chk.length := by rw [RA.len hcr, List.length_map]
      have hl8 := good.hlen
      refine lc_dataW2 (K := K) (a := ch) (xs := xsc) (w := w) (N := N + 80 * kas0.length) (c := 2) (F0 := F') (fun j d => ∃ row tb, chk[j]? = some row ∧ SumOf cols row tb ∧ d = dSum tb) (by omega) hch2 chw hD3 (wl.same s2) (gr.sub.trans s2) fw (fun j x F2 H2 Q' hx2 s3 w3 g3 nD3 f3D f3w kk => ?_) (fun ds F2 H2 ps frp dl hds s3 w3 g3 f3D f3w ra3 hD3' => ?_)
      · have hj : j < chk.length := by rw [← hxl]; exact (List.getElem?_eq_some_iff.mp hx2).1
        have eR : chk[j]? = some chk[j] := List.getElem?_eq_getElem hj
        have gr' := good.h _ (List.getElem_mem hj)
        generalize chk[j] = row at *
        obtain ⟨x', hx', hR⟩ := RA.at hcr (show (chk.map dInts)[j]? = some (dInts row) by rw [List.getElem?_map, eR]; rfl)
        rw [hx2] at hx'
        cases hx'
        obtain ⟨n, rfl, hn⟩ := R_dInts.mp hR
        have sH := (sm.trans (Sm.same s2)).trans s3
        refine ⟨rfl, _, rfl, _, rfl, t0, _, _, _, rfl, rfl, SqT.of (sH _ _ (nw _ _ ht0) (sG _ _ ht0)), rfl, _, rfl, w, c, n, cols, row, N + 80 * kas0.length + 2 * j, (by rfl), sH _ _ (nw _ _ hc) (sG _ _ hc), sH _ _ (nw _ _ hn) (sG _ _ hn), w3, by omega, good.c.nd, good.c.len, gr'.1, nw _ _ hc, nw _ _ hn, fun p tb H4 hp so s4 w4 h4 => ?_⟩
        refine kk _ _ _ _ hp (some_ne h4) ⟨row, tb, eR, so, rfl⟩ s4 w4 (Gr.one (fun b o e => s4 b o (fun z => by rw [z, f3w] at e; cases e) (g3.sub b o e)) hp h4) (R_dSum.mpr ⟨p, rfl, upd_same⟩)
      obtain ⟨tbs, ed, tl, tv⟩ := SumOf_list (by omega) hds
      subst ed
      refine ⟨(show 3 ≤ sizeLine by decide), fun th hth => ?_⟩
      have s4 := same_upd (o := .tup [.ref hc2, .ref D, .ref D3]) hth
      have sAll := (sm.trans (Sm.same s2)).trans s3
      have cx : ∀ a ∈ kas, ∃ k, HKa G F' k a := fun a ha => by
        obtain ⟨j, hj, ej⟩ := List.mem_iff_getElem.mp ha
        have e1 : kas[j]? = some a := by rw [List.getElem?_eq_getElem hj, ej]
        exact ⟨_, ct j a _ e1 (List.getElem?_eq_getElem (show j < kds'.length by omega))⟩
      have ex : ∀ a ∈ kas, H' a.2.1 ≠ none ∧ H' a.2.2 ≠ none := fun a ha => by
        obtain ⟨k, h⟩ := cx a ha
        exact h.ex gr.sub
      have exF : ∀ a ∈ kas, ∃ o, F' a.2.1 = some o := fun a ha => by
        obtain ⟨k, _, h2, _⟩ := cx a ha
        obtain ⟨_, us, eu, hu, _⟩ := R_list.mp h2
        cases eu
        exact ⟨_, hu⟩
      have hD3n : ∀ b, H' b ≠ none → b ≠ D3 := fun b hb z => by subst z; exact hb (same_none s2 hD3)
      have wS := wl.same s2
      have hhc0 : H hc2 = none := sm.free wl.ne hhc
      have hD30 : H D3 = none := (sm.trans (Sm.same s2)).free wS.ne hD3
      have hth0 : H th = none := sAll.free w3.ne hth
      have hcw2 : hc2 ≠ w := fun z => wl.ne (z ▸ hhc)
      have hD2 := s3 _ _ nDw (s2 _ _ hD')
      have hc22 := s3 _ _ hcw2 (upd_same (H := H') (o := .lst (cols.map V.str)))
      have g5 := (gr.step s2).trans g3 (fun z hz => (sm.trans (Sm.same s2)).free wS.ne hz)
      have g6 := ((((g5.snoc hD30 hD3').snoc hhc0 hc22).snoc hD hD2).step s4).snoc (D := th) (o := .tup [.ref hc2, .ref D, .ref D3]) hth0 upd_same
      have f3Dm := g3.out fD (some_ne (s2 _ _ hD'))
      have f3hc := g3.out (same_none gr.sub hhc) (some_ne (upd_same (H := H') (o := .lst (cols.map V.str))))
      have nth : ∀ b, H2 b ≠ none → b ≠ th := fun b hb z => hb (z ▸ hth)
      have nDhc : D ≠ hc2 := fun z => by rw [z, hhc] at hD'; cases hD'
      have nDD3 : D ≠ D3 := fun z => by have := s2 _ _ hD'; rw [z, hD3] at this; cases this
      have nhcD3 : hc2 ≠ D3 := fun z => by rw [← z, upd_same] at hD3; cases hD3
      have le3 : Same F2 (upd (upd (upd (upd F2 D3 (.lst (ps.map V.ref))) hc2 (.lst (cols.map V.str))) D (.lst (kas.map fun a => V.ref a.1))) th (.tup [.ref hc2, .ref D, .ref D3])) := fun b o e => by
        rw [upd_ne (nth b (some_ne (g3.sub _ _ e))), upd_ne (fun z => by rw [z, f3Dm] at e; cases e), upd_ne (fun z => by rw [z, f3hc] at e; cases e), upd_ne (fun z => by rw [z, f3D] at e; cases e)]
        exact e
      refine q th hc2 D D3 kds' tbs kas _ _ (by omega) hws tl tv (sAll.trans (Sm.same s4)) ((w3.same s4).mono (by omega)) g6 ⟨upd_same, ?_, ?_, by omega, ?_, ?_, ?_, ?_, Ne.symm nDhc, ?_⟩ ⟨dss, ps, by omega, fun j a ds e1 e2 => le3 _ _ (g3.le _ _ (dat j a ds e1 e2)), ?_, ?_⟩
      · rw [upd_ne (nth hc2 (some_ne hc22)), upd_ne (Ne.symm nDhc)]; exact upd_same
      · rw [upd_ne (nth D (some_ne hD2))]; exact upd_same
      · intro j a k e1 e2
        exact ((ct j a k e1 e2).mono g3.le).mono le3
      · refine R_list.mpr ⟨D3, ps.map V.ref, rfl, ?_, RA.mono le3 _ _ ra3⟩
        rw [upd_ne (nth D3 (some_ne hD3')), upd_ne (Ne.symm nDD3), upd_ne (Ne.symm nhcD3)]; exact upd_same
      · rw [List.nodup_cons]
        refine ⟨fun h => ?_, nd⟩
        obtain ⟨a, ha, e⟩ := List.mem_map.mp h
        exact hD3n _ (ex a ha).1 e
      · rintro b hb z
        rcases List.mem_cons.mp z with z | z
        · rcases hb with hb | hb | ⟨a, ha, hb⟩
          · exact nhcD3 (hb.symm.trans z)
          · exact nDD3 (hb.symm.trans z)
          · exact hD3n _ (ex a ha).2 (hb.symm.trans z)
        · obtain ⟨a', ha', e⟩ := List.mem_map.mp z
          rcases hb with hb | hb | ⟨a, ha, hb⟩
          · exact (ex a' ha').1 (by rw [e, hb]; exact hhc)
          · obtain ⟨o, ho⟩ := exF a' ha'
            rw [e, hb, fD] at ho
            cases ho
          · exact sp_ a ha a' ha' (hb.symm.trans e.symm)
      · rw [List.nodup_cons]
        refine ⟨fun h => ?_, sn⟩
        rcases List.mem_cons.mp h with z | z
        · exact nDhc z.symm
        · obtain ⟨a, ha, e⟩ := List.mem_map.mp z
          exact (ex a ha).2 (by rw [e]; exact hhc)
      · rw [upd_ne (nth D3 (some_ne hD3')), upd_ne (Ne.symm nDD3), upd_ne (Ne.symm nhcD3)]; exact upd_same
      · exact ((frs.step (Sm.same s2) hw.ne).app frp s3 hw.ne fun p hp => (sm.trans (Sm.same s2)).free wS.ne hp).1
end
end Pz
namespace Pz
open PySem L2
open PyProof.Rows (envOfC)
/-! ### put into a list at a place -/
def insA {α : Type} (i : Nat) (x : α) (l : List α) : List α := l.take i ++ [x] ++ l.drop i
theorem insA_map {α β : Type} (f : α → β) (i : Nat) (x : α) (l : List α) : (insA i x l).map f = insA i (f x) (l.map f) := by simp [insA, List.map_take, List.map_drop]
theorem insA_len {α : Type} {i : Nat} {x : α} {l : List α} (h : i ≤ l.length) : (insA i x l).length = l.length + 1 := by simp [insA]; omega
theorem insA_mem {α : Type} {i : Nat} {x y : α} {l : List α} (h : y ∈ insA i x l) : y = x ∨ y ∈ l := by
  simp only [insA, List.mem_append, List.mem_singleton] at h
  rcases h with (h | h) | h
  · exact .inr (List.mem_of_mem_take h)
  · exact .inl h
  · exact .inr (List.mem_of_mem_drop h)
theorem insA_at {α : Type} {i : Nat} {x : α} {l : List α} (h : i ≤ l.length) (j : Nat) : (insA i x l)[j]? = if j < i then l[j]? else if j = i then some x else l[j - 1]? := by
  have tl : (l.take i).length = i := by rw [List.length_take]; omega
  unfold insA
  by_cases c : j < i
  · rw [if_pos c, List.append_assoc, List.getElem?_append_left (by omega), List.getElem?_take_of_lt c]
  · rw [if_neg c]
    by_cases e : j = i
    · subst e
      rw [if_pos rfl, List.append_assoc, List.getElem?_append_right (by omega), tl, Nat.sub_self]; rfl
    · rw [if_neg e, List.getElem?_append_right (by simp; omega), List.getElem?_drop]
      congr 1
      simp
      omega
theorem insA_take {α : Type} {i : Nat} {x : α} {l : List α} (h : i ≤ l.length) : (insA i x l).take i = l.take i := by
  have tl : (l.take i).length = i := by rw [List.length_take]; omega
  unfold insA
  rw [List.append_assoc]
  exact List.take_left' tl
theorem insA_both {α β : Type} {i j : Nat} {x a : α} {y b : β} {l : List α} {m : List β} (hl : l.length = m.length) (hi : i ≤ l.length) (h1 : (insA i x l)[j]? = some a) (h2 : (insA i y m)[j]? = some b) :
    (a = x ∧ b = y) ∨ ∃ j' : Nat, l[j']? = some a ∧ m[j']? = some b := by
  rw [insA_at hi] at h1
  rw [insA_at (by omega)] at h2
  by_cases c : j < i
  · rw [if_pos c] at h1 h2; exact .inr ⟨j, h1, h2⟩
  · rw [if_neg c] at h1 h2
    by_cases e : j = i
    · rw [if_pos e] at h1 h2; cases h1; cases h2; exact .inl ⟨rfl, rfl⟩
    · rw [if_neg e] at h1 h2; exact .inr ⟨_, h1, h2⟩
end Pz
namespace Pz
open PySem L2
open PyProof.Rows (envOfC)
/-! ### what is handed, in the heap, as it stands -/
structure HV (G H : Hp) (cols : List Str) (kds : List KD) (chs : List (List (Str × Int))) (th hc hk hh : Addr) (kas : List KB) : Prop where
  top : H th = some (.tup [.ref hc, .ref hk, .ref hh])
  c_ : H hc = some (.lst (cols.map V.str))
  k_ : H hk = some (.lst (kas.map fun a => V.ref a.1))
  len : kas.length = kds.length
  ct : ∀ (j : Nat) a k, kas[j]? = some a → kds[j]? = some k → HKa G H k a
  h_ : R H (.list (chs.map dSum)) (.ref hh)
theorem HD.hv {G F' H : Hp} {cols : List Str} {kds : List KD} {chs : List (List (Str × Int))} {th hc hk hh : Addr} {kas : List KB} (h : HD G F' cols kds chs th hc hk hh kas) (s : Same F' H) : HV G H cols kds chs th hc hk hh kas :=
  ⟨s _ _ h.top, s _ _ h.c_, s _ _ h.k_, h.len, fun j a k e1 e2 => (h.ct j a k e1 e2).mono s, R.mono s _ _ h.h_⟩
theorem HV.mono {G H H' : Hp} {cols : List Str} {kds : List KD} {chs : List (List (Str × Int))} {th hc hk hh : Addr} {kas : List KB} (h : HV G H cols kds chs th hc hk hh kas) (s : Same H H') : HV G H' cols kds chs th hc hk hh kas :=
  ⟨s _ _ h.top, s _ _ h.c_, s _ _ h.k_, h.len, fun j a k e1 e2 => (h.ct j a k e1 e2).mono s, R.mono s _ _ h.h_⟩
theorem R_sums_put {H : Hp} {D b : Addr} {o : HO} {xs : List V} {tbs : List (List (Str × Int))} (h : R H (.list (tbs.map dSum)) (.ref b)) (n : D ≠ b) (hD : H D = some (.lst xs)) : R (upd H D o) (.list (tbs.map dSum)) (.ref b) := by
  obtain ⟨b', ys, e, hb, hy⟩ := R_list.mp h
  cases e
  refine R_list.mpr ⟨b, ys, rfl, by rw [upd_ne (Ne.symm n)]; exact hb, RA_of (RA.len hy) fun i d x e1 e2 => ?_⟩
  obtain ⟨x', e3, hx⟩ := RA.at hy e1
  rw [e2] at e3
  cases e3
  rw [List.getElem?_map] at e1
  obtain ⟨tb, _, rfl⟩ := Option.map_eq_some_iff.mp e1
  obtain ⟨a, rfl, ha⟩ := R_dSum.mp hx
  exact R_dSum.mpr ⟨a, rfl, by rw [upd_ne (fun z => by rw [z, hD] at ha; cases ha)]; exact ha⟩
theorem HKa.put {G H : Hp} {k : KD} {a : KB} {D : Addr} {o : HO} {xs : List V} (h : HKa G H k a) (n1 : D ≠ a.2.1) (n2 : D ≠ a.2.2) (hD : H D = some (.lst xs)) : HKa G (upd H D o) k a := by
  obtain ⟨h1, h2, zs, h3, h4⟩ := h
  exact ⟨by rw [upd_ne (fun z => by rw [z, hD] at h1; cases h1)]; exact h1, R_sums_put h2 n1 hD, zs, by rw [upd_ne (Ne.symm n2)]; exact h3, h4⟩
theorem HKa.g {G G' H : Hp} {k : KD} {a : KB} (h : HKa G H k a) (s : Same G G') : HKa G' H k a := by
  obtain ⟨h1, h2, zs, h3, h4⟩ := h
  exact ⟨h1, h2, zs, h3, RA.mono s _ _ h4⟩
section
variable {G H : Hp} {cols : List Str} {kds : List KD} {chs : List (List (Str × Int))} {th hc hk hh : Addr} {kas : List KB}
theorem HV.R (h : HV G H cols kds chs th hc hk hh kas) (sG : Same G H) : R H (dHanded cols kds chs) (.ref th) := by
  refine R_tup3.mpr ⟨th, _, _, _, rfl, h.top, R_dStrs.mpr ⟨hc, rfl, h.c_⟩, R_list.mpr ⟨hk, _, rfl, h.k_, RA_of (by simp [h.len]) ?_⟩, h.h_⟩
  intro i d x e1 e2
  rw [List.getElem?_map] at e1 e2
  obtain ⟨k, e3, rfl⟩ := Option.map_eq_some_iff.mp e1
  obtain ⟨a, e4, rfl⟩ := Option.map_eq_some_iff.mp e2
  obtain ⟨h1, h2, zs, h4, h5⟩ := h.ct i a k e4 e3
  exact R_tup3.mpr ⟨a.1, _, _, _, rfl, h1, rfl, h2, R_list.mpr ⟨_, zs, rfl, h4, RA.mono sG _ _ h5⟩⟩
theorem HV.col (h : HV G H cols kds chs th hc hk hh kas) (n1 : hc ≠ hk) (n2 : hc ≠ hh) (n3 : ∀ a ∈ kas, hc ≠ a.2.1) (n4 : ∀ a ∈ kas, hc ≠ a.2.2) (cols' : List Str) : HV G (upd H hc (.lst (cols'.map V.str))) cols' kds chs th hc hk hh kas := by
  refine ⟨by rw [upd_ne (fun z => by have := h.top; rw [z, h.c_] at this; cases this)]; exact h.top, upd_same, by rw [upd_ne (Ne.symm n1)]; exact h.k_, h.len, fun j a k e1 e2 => ?_, R_sums_put h.h_ n2 h.c_⟩
  have ha := List.mem_of_getElem? e1
  exact (h.ct j a k e1 e2).put (n3 a ha) (n4 a ha) h.c_
theorem HV.kin (h : HV G H cols kds chs th hc hk hh kas) (n1 : hc ≠ hk) (n2 : hk ≠ hh) (n3 : ∀ a ∈ kas, hk ≠ a.2.1) (n4 : ∀ a ∈ kas, hk ≠ a.2.2) {i : Nat} (hi : i ≤ kas.length) {kn : KD} {an : KB} (hn : HKa G H kn an) (m3 : hk ≠ an.2.1) (m4 : hk ≠ an.2.2) :
    HV G (upd H hk (.lst (insA i (.ref an.1) (kas.map fun a => V.ref a.1)))) cols (insA i kn kds) chs th hc hk hh (insA i an kas) := by
  have l := h.len
  refine ⟨by rw [upd_ne (fun z => by have := h.top; rw [z, h.k_] at this; cases this)]; exact h.top, by rw [upd_ne n1]; exact h.c_, by rw [insA_map]; exact upd_same, by rw [insA_len hi, insA_len (by omega), l], fun j a k e1 e2 => ?_, R_sums_put h.h_ n2 h.k_⟩
  rcases insA_both l hi e1 e2 with ⟨rfl, rfl⟩ | ⟨j', f1, f2⟩
  · exact hn.put m3 m4 h.k_
  · have ha := List.mem_of_getElem? f1
    exact (h.ct j' a k f1 f2).put (n3 a ha) (n4 a ha) h.k_
theorem HV.stp (h : HV G H cols kds chs th hc hk hh kas) {G' : Hp} (sG : Same G G') {j : Nat} {a : KB} {k : KD} (ea : kas[j]? = some a) (ek : kds[j]? = some k) (n1 : a.2.2 ≠ hc) (n2 : a.2.2 ≠ hk) (n3 : a.2.2 ≠ hh) (n4 : ∀ b ∈ kas, a.2.2 ≠ b.2.1) (n5 : (kas.map fun b => b.2.2).Nodup)
    {st : Str × Int × Int} {x : V} (hx : Pz.R G' (dStep st) x) {i : Nat} {zs : List V} (hz : H a.2.2 = some (.lst zs)) (hi : i ≤ zs.length) (hzl : RA G (k.steps.map dStep) zs) :
    HV G' (upd H a.2.2 (.lst (insA i x zs))) cols (kds.set j { k with steps := insA i st k.steps }) chs th hc hk hh kas := by
  have zl := RA.len hzl
  rw [List.length_map] at zl
  refine ⟨by rw [upd_ne (fun z => by have := h.top; rw [z, hz] at this; cases this)]; exact h.top, by rw [upd_ne (Ne.symm n1)]; exact h.c_, by rw [upd_ne (Ne.symm n2)]; exact h.k_, by rw [List.length_set]; exact h.len, fun j' b k' e1 e2 => ?_, R_sums_put h.h_ n3 hz⟩
  have hb := List.mem_of_getElem? e1
  by_cases c : j' = j
  · subst c
    rw [ea] at e1
    cases e1
    rw [List.getElem?_set_self (List.getElem?_eq_some_iff.mp ek).1] at e2
    cases e2
    obtain ⟨h1, h2, _, _⟩ := h.ct j' a k ea ek
    refine ⟨by rw [upd_ne (fun z => by rw [z, hz] at h1; cases h1)]; exact h1, R_sums_put h2 (n4 a hb) hz, _, upd_same, RA_of ?_ fun i2 d y f1 f2 => ?_⟩
    · show (insA i x zs).length = ((insA i st k.steps).map dStep).length
      rw [List.length_map, insA_len hi, insA_len (by omega), zl]
    · have f1' : (insA i (dStep st) (k.steps.map dStep))[i2]? = some d := by rw [← insA_map]; exact f1
      rcases insA_both (by rw [List.length_map]; omega) hi f2 f1' with ⟨rfl, rfl⟩ | ⟨j', g1, g2⟩
      · exact hx
      · obtain ⟨y', g3, g4⟩ := RA.at hzl g2
        rw [g1] at g3
        cases g3
        exact R.mono sG _ _ g4
  · rw [List.getElem?_set_ne (fun z => c z.symm)] at e2
    refine ((h.ct j' b k' e1 e2).put (n4 b hb) (fun z => c ?_) hz).g sG
    have g1 : (kas.map fun b => b.2.2)[j']? = some b.2.2 := by rw [List.getElem?_map, e1]; rfl
    have g2 : (kas.map fun b => b.2.2)[j]? = some b.2.2 := by rw [List.getElem?_map, ea]; exact congrArg some z
    exact nodup_ix2 n5 g1 g2
end
end Pz
namespace Pz
open PySem L2
open PyProof.Rows (envOfC)
/-! ### a table of what is handed, changed where it stands -/
theorem HDd.mono {F F' : Hp} {hh : Addr} {kas : List KB} {dss : List (List Addr)} {hs : List Addr} (h : HDd F hh kas dss hs) (s : Same F F') : HDd F' hh kas dss hs := ⟨h.len, fun j a ds e1 e2 => s _ _ (h.at_ j a ds e1 e2), s _ _ h.h_, h.nd⟩
/-- tables, by the places where they stand -/
structure TabsAt (H : Hp) (ds : List Addr) (tbs : List (List (Str × Int))) : Prop where
  len : ds.length = tbs.length
  at_ : ∀ (i : Nat) p tb, ds[i]? = some p → tbs[i]? = some tb → H p = some (.dK (eSum tb))
theorem TabsAt.R {H : Hp} {ds : List Addr} {tbs : List (List (Str × Int))} {b : Addr} (h : TabsAt H ds tbs) (hb : H b = some (.lst (ds.map V.ref))) : R H (.list (tbs.map dSum)) (.ref b) := by
  refine R_list.mpr ⟨b, _, rfl, hb, RA_of (by simp [h.len]) fun i d x e1 e2 => ?_⟩
  rw [List.getElem?_map] at e1 e2
  obtain ⟨tb, e3, rfl⟩ := Option.map_eq_some_iff.mp e1
  obtain ⟨p, e4, rfl⟩ := Option.map_eq_some_iff.mp e2
  exact R_dSum.mpr ⟨p, rfl, h.at_ i p tb e4 e3⟩
theorem R_tabs {H : Hp} {ds : List Addr} {tbs : List (List (Str × Int))} {b : Addr} (h : R H (.list (tbs.map dSum)) (.ref b)) (hb : H b = some (.lst (ds.map V.ref))) : TabsAt H ds tbs := by
  obtain ⟨b', xs, e, h1, h2⟩ := R_list.mp h
  cases e
  rw [hb] at h1
  cases h1
  have l := RA.len h2
  simp only [List.length_map] at l
  refine ⟨l, fun i p tb e1 e2 => ?_⟩
  obtain ⟨x, e3, hx⟩ := RA.at h2 (show (tbs.map dSum)[i]? = some (dSum tb) by rw [List.getElem?_map, e2]; rfl)
  rw [List.getElem?_map, e1] at e3
  cases e3
  obtain ⟨q, eq, hq⟩ := R_dSum.mp hx
  cases eq
  exact hq
theorem TabsAt.put {H : Hp} {ds : List Addr} {tbs : List (List (Str × Int))} {i : Nat} {p : Addr} {tb' : List (Str × Int)} (h : TabsAt H ds tbs) (nd : ds.Nodup) (ep : ds[i]? = some p) : TabsAt (upd H p (.dK (eSum tb'))) ds (tbs.set i tb') := by
  refine ⟨by rw [List.length_set]; exact h.len, fun i' q tb e1 e2 => ?_⟩
  by_cases c : i' = i
  · subst c
    rw [ep] at e1
    cases e1
    have hl := (List.getElem?_eq_some_iff.mp ep).1
    rw [List.getElem?_set_self (by have := h.len; omega)] at e2
    cases e2
    exact upd_same
  · rw [List.getElem?_set_ne (Ne.symm c)] at e2
    rw [upd_ne (show q ≠ p from fun z => c (nodup_ix2 nd e1 (by rw [z]; exact ep)))]
    exact h.at_ i' q tb e1 e2
theorem TabsAt.off {H : Hp} {ds : List Addr} {tbs : List (List (Str × Int))} {p : Addr} {o : HO} (h : TabsAt H ds tbs) (n : p ∉ ds) : TabsAt (upd H p o) ds tbs :=
  ⟨h.len, fun i q tb e1 e2 => by rw [upd_ne (show q ≠ p from fun z => n (by rw [← z]; exact List.mem_of_getElem? e1))]; exact h.at_ i q tb e1 e2⟩
section
variable {G H : Hp} {cols : List Str} {kds : List KD} {chs : List (List (Str × Int))} {th hc hk hh : Addr} {kas : List KB} {dss : List (List Addr)} {hs : List Addr}
theorem HDd.one (dd : HDd H hh kas dss hs) {j : Nat} {ds : List Addr} (e : dss[j]? = some ds) : ds.Nodup :=
  (List.pairwise_flatten.mp (List.nodup_append.mp dd.nd).1).1 ds (List.mem_of_getElem? e)
theorem HDd.apart (dd : HDd H hh kas dss hs) {j j' : Nat} {ds ds' : List Addr} {p : Addr} (e : dss[j]? = some ds) (e' : dss[j']? = some ds') (n : j ≠ j') (hp : p ∈ ds) : p ∉ ds' := by
  have pw := (List.pairwise_flatten.mp (List.nodup_append.mp dd.nd).1).2
  obtain ⟨hj, ej⟩ := List.getElem?_eq_some_iff.mp e
  obtain ⟨hj', ej'⟩ := List.getElem?_eq_some_iff.mp e'
  intro hp'
  rcases Nat.lt_or_gt_of_ne n with c | c
  · have := List.pairwise_iff_getElem.mp pw j j' hj hj' c p (by rw [ej]; exact hp) p (by rw [ej']; exact hp')
    exact this rfl
  · have := List.pairwise_iff_getElem.mp pw j' j hj' hj c p (by rw [ej']; exact hp') p (by rw [ej]; exact hp)
    exact this rfl
theorem HDd.offh (dd : HDd H hh kas dss hs) {j : Nat} {ds : List Addr} {p : Addr} (e : dss[j]? = some ds) (hp : p ∈ ds) : p ∉ hs := fun z =>
  (List.nodup_append.mp dd.nd).2.2 p (List.mem_flatten.mpr ⟨ds, List.mem_of_getElem? e, hp⟩) p z rfl
theorem HDd.put (dd : HDd H hh kas dss hs) {p : Addr} {o o' : HO} (h : H p = some o') (nl : ∀ l, o' ≠ .lst l) : HDd (upd H p o) hh kas dss hs :=
  ⟨dd.len, fun j a ds e1 e2 => by
    have := dd.at_ j a ds e1 e2
    rw [upd_ne (fun z => by rw [z, h] at this; cases this; exact nl _ rfl)]; exact this, by
    have := dd.h_
    rw [upd_ne (fun z => by rw [z, h] at this; cases this; exact nl _ rfl)]; exact this, dd.nd⟩
theorem HV.tab (h : HV G H cols kds chs th hc hk hh kas) (dd : HDd H hh kas dss hs) {j i : Nat} {a : KB} {k : KD} {ds : List Addr} {p : Addr} {tb' : List (Str × Int)} (ea : kas[j]? = some a) (ek : kds[j]? = some k) (ed : dss[j]? = some ds) (ep : ds[i]? = some p) :
    HV G (upd H p (.dK (eSum tb'))) cols (kds.set j { k with sums := k.sums.set i tb' }) chs th hc hk hh kas := by
  have ta : ∀ {j' : Nat} {a' : KB} {k' : KD} {ds' : List Addr}, kas[j']? = some a' → kds[j']? = some k' → dss[j']? = some ds' → TabsAt H ds' k'.sums := fun {j' a' k' ds'} e1 e2 e3 => R_tabs (h.ct j' a' k' e1 e2).2.1 (dd.at_ j' a' ds' e1 e3)
  have t0 := ta ea ek ed
  have hl := (List.getElem?_eq_some_iff.mp ep).1
  have hp : ∃ tb, H p = some (.dK (eSum tb)) := ⟨_, t0.at_ i p _ ep (List.getElem?_eq_getElem (by have := t0.len; omega))⟩
  obtain ⟨tb, hp⟩ := hp
  have nl : ∀ {b : Addr} {o : HO}, H b = some o → (∀ kv, o ≠ .dK kv) → (upd H p (.dK (eSum tb'))) b = some o := fun {b o} e n => by
    rw [upd_ne (fun z => by rw [z, hp] at e; cases e; exact n _ rfl)]; exact e
  refine ⟨nl h.top (fun _ z => nomatch z), nl h.c_ (fun _ z => nomatch z), nl h.k_ (fun _ z => nomatch z), by rw [List.length_set]; exact h.len, fun j' a' k' e1 e2 => ?_, ?_⟩
  · by_cases c : j' = j
    · subst c
      rw [List.getElem?_set_self (List.getElem?_eq_some_iff.mp ek).1] at e2
      cases e2
      rw [ea] at e1
      cases e1
      obtain ⟨h1, h2, zs, h3, h4⟩ := h.ct j' a k ea ek
      exact ⟨nl h1 (fun _ z => nomatch z), (t0.put (dd.one ed) ep).R (nl (dd.at_ j' a ds ea ed) (fun _ z => nomatch z)), zs, nl h3 (fun _ z => nomatch z), h4⟩
    · rw [List.getElem?_set_ne (Ne.symm c)] at e2
      obtain ⟨h1, h2, zs, h3, h4⟩ := h.ct j' a' k' e1 e2
      have lk := (List.getElem?_eq_some_iff.mp e1).1
      have e3 : dss[j']? = some (dss[j']'(by rw [dd.len]; exact lk)) := List.getElem?_eq_getElem (by rw [dd.len]; exact lk)
      exact ⟨nl h1 (fun _ z => nomatch z), ((ta e1 e2 e3).off (dd.apart ed e3 (Ne.symm c) (List.mem_of_getElem? ep))).R (nl (dd.at_ j' a' _ e1 e3) (fun _ z => nomatch z)), zs, nl h3 (fun _ z => nomatch z), h4⟩
  · exact ((R_tabs h.h_ dd.h_).off (dd.offh ed (List.mem_of_getElem? ep))).R (nl dd.h_ (fun _ z => nomatch z))
end
end Pz
namespace Pz
open PySem L2
open PyProof.Rows (envOfC)
/-! ### how long its text is; what is spoiled -/
def TB (tb : List (Str × Int)) : Prop := tb.length ≤ 23 ∧ ∀ p ∈ tb, OkW p.1 ∧ NumOk p.2
structure RBK (k : KD) : Prop where
  nm : OkW k.name
  sl : k.sums.length ≤ 40
  s : ∀ tb ∈ k.sums, TB tb
  tl : k.steps.length ≤ 41
  t : ∀ s ∈ k.steps, OkW s.1 ∧ NumOk s.2.1 ∧ NumOk s.2.2
structure RB (cols : List Str) (kds : List KD) (chs : List (List (Str × Int))) : Prop where
  c : ∀ x ∈ cols, OkW x
  cl : cols.length ≤ 21
  k : ∀ k ∈ kds, RBK k
  kl : kds.length ≤ 9
  h : ∀ tb ∈ chs, TB tb
  hl : chs.length ≤ 40
theorem TOk.tb {cols : List Str} {tb : List (Str × Int)} (h : TOk cols tb) (hc : ∀ c ∈ cols, isNm c = true) : TB tb := ⟨Nat.le_trans h.len (by decide), fun p hp => ⟨okw_nm (hc _ (h.key p hp)), h.num p hp⟩⟩
theorem GB.rb {cols : List Str} {kds : List KD} {chk : List (List Int)} {chs : List (List (Str × Int))} {m n : Nat} (h : GB cols kds chk chs m n) (hm : m ≤ 40) (hn : n ≤ 40) : RB cols kds chs := by
  refine ⟨fun x hx => okw_nm (h.c.nm x hx), by have := h.c.len; omega, fun k hk => ?_, by have := h.kl; omega, fun tb ht => (h.hs tb ht).tb h.c.nm, Nat.le_trans h.hl hn⟩
  have g := h.k k hk
  refine ⟨okw_nm g.nm, Nat.le_trans g.len hm, fun tb ht => (g.sok tb ht).tb h.c.nm, by have := g.sl; omega, fun s hs => ?_⟩
  obtain ⟨a, b, c, d, e⟩ := g.stp s hs
  have := g.len
  exact ⟨okw_nm a, num_small b (by omega), num_small d (by omega)⟩
theorem RB.shw {cols : List Str} {kds : List KD} {chs : List (List (Str × Int))} (h : RB cols kds chs) : Shw 250000 5 (dHanded cols kds chs) := by
  have sum : ∀ {tb : List (Str × Int)}, TB tb → Shw 460 1 (dSum tb) := fun {tb} ht => shw_dict (m := 9) (n := 0) (l := 23) (fun d hd => by
    obtain ⟨p, hp, rfl⟩ := List.mem_map.mp hd
    exact ⟨shw_str (ht.2 p hp).1.1 (ht.2 p hp).1.2, (shw_int (ht.2 p hp).2).mono (by decide) (Nat.le_refl _)⟩) (by rw [List.length_map]; exact ht.1)
  have sums : ∀ {tbs : List (List (Str × Int))}, (∀ tb ∈ tbs, TB tb) → tbs.length ≤ 40 → Shw 18440 2 (.list (tbs.map dSum)) := fun {tbs} ht hl =>
    shw_list (m := 460) (n := 1) (l := 40) (fun d hd => by obtain ⟨tb, htb, rfl⟩ := List.mem_map.mp hd; exact sum (ht tb htb)) (by rw [List.length_map]; exact hl)
  have str : ∀ {s : Str}, OkW s → Shw 50 0 (.str s) := fun {s} hs => (shw_str hs.1 hs.2).mono (by decide) (Nat.le_refl _)
  have ks : Shw 186400 4 (.list (kds.map dKindS)) := (shw_list (m := 20707) (n := 3) (l := 9) (fun d hd => by
    obtain ⟨k, hk, rfl⟩ := List.mem_map.mp hd
    have g := h.k k hk
    have st : Shw 2214 2 (.list (k.steps.map dStep)) := shw_list (m := 53) (n := 1) (l := 41) (fun d hd => by
      obtain ⟨s, hs, rfl⟩ := List.mem_map.mp hd
      obtain ⟨a, b, c⟩ := g.t s hs
      exact shw_tup3 (str a) ((shw_int b).mono (Nat.le_refl _) (Nat.le_refl _)) (shw_int c)) (by rw [List.length_map]; exact g.tl)
    exact (shw_tup3 ((str g.nm).mono (Nat.le_refl _) (by decide)) (sums g.s g.sl) st).mono (by decide) (Nat.le_refl _)) (by rw [List.length_map]; exact h.kl)).mono (by decide) (Nat.le_refl _)
  have cs : Shw 1071 1 (dStrs cols) := shw_list (m := 50) (n := 0) (l := 21) (fun d hd => by
    obtain ⟨s, hs, rfl⟩ := List.mem_map.mp hd
    exact str (h.c s hs)) (by rw [List.length_map]; exact h.cl)
  exact (shw_tup3 (cs.mono (Nat.le_refl _) (by decide)) ks ((sums h.h h.hl).mono (Nat.le_refl _) (by decide))).mono (by decide) (Nat.le_refl _)
section
variable {G H : Hp} {cols : List Str} {kds : List KD} {chs : List (List (Str × Int))} {th hc hk hh : Addr} {kas : List KB}
theorem HV.hks (h : HV G H cols kds chs th hc hk hh kas) (m : Nat) : ∀ (i : Nat) k x, (kds.take m)[i]? = some k → (kas.map fun a => V.ref a.1)[i]? = some x → HK G H k x := by
  intro i k x e1 e2
  have e1' : kds[i]? = some k := by
    by_cases c : i < m
    · rwa [List.getElem?_take_of_lt c] at e1
    · rw [List.getElem?_eq_none (by rw [List.length_take]; omega)] at e1; cases e1
  rw [List.getElem?_map] at e2
  obtain ⟨a, e3, rfl⟩ := Option.map_eq_some_iff.mp e2
  obtain ⟨h1, h2, zs, h3, h4⟩ := h.ct i a k e3 e1'
  exact ⟨a.1, _, _, zs, rfl, h1, h2, h3, h4⟩
/-- spoiled at place j of the kinds, as they are handed -/
theorem spoil_at {j : Nat} {k : KD} {a : KB} {kds0 : List KD} {e : WhichE} {s : Str} (hv : HV G H cols kds chs th hc hk hh kas) (sGH : Same G H) (gc : GoodC cols) (ea : kas[j]? = some a) (ek : kds[j]? = some k) (tk : kds.take j = kds0) (g0 : ∀ k ∈ kds0, GoodK cols k) (nd0 : (kds0.map (·.name)).Nodup) (jl : j ≤ 20) (hn : isNm k.name = true)
    (nin : k.name ∉ kds0.map (·.name)) (sl : k.sums.length ≤ 40) (tl : ∀ tb ∈ k.sums, tb.length < 64) (w : Wr cols k.name k.sums e s) : SpoilT H G cols hk e s := by
  have jlt := (List.getElem?_eq_some_iff.mp ek).1
  have kl := hv.len
  obtain ⟨h1, h2, zs', h3, h4⟩ := hv.ct j a _ ea ek
  have l0 : kds0.length = j := by rw [← tk, List.length_take]; omega
  refine ⟨gc, kds0, _, a.1, k.name, a.2.1, a.2.2, k.sums, hv.k_, by have := hv.hks j; rw [tk] at this; exact this, by rw [l0, List.length_map, kl]; exact jlt, sGH, g0, nd0, by omega, by rw [l0, List.getElem?_map, ea]; rfl, h1, hn, nin, h2, sl, tl, w⟩
theorem take_set {α : Type} {l : List α} {j : Nat} {x : α} : (l.set j x).take j = l.take j := by
  apply List.ext_getElem?
  intro i
  by_cases c : i < j
  · rw [List.getElem?_take_of_lt c, List.getElem?_take_of_lt c, List.getElem?_set_ne (by omega)]
  · rw [List.getElem?_eq_none (by rw [List.length_take]; omega), List.getElem?_eq_none (by rw [List.length_take]; omega)]
theorem nin_take {kds : List KD} {j : Nat} {k : KD} (nd : (kds.map (·.name)).Nodup) (ej : kds[j]? = some k) : k.name ∉ (kds.take j).map (·.name) := by
  rw [List.map_take]
  exact not_mem_take nd (by rw [List.getElem?_map, ej]; rfl)
end
end Pz
namespace Pz
open PySem L2
open PyProof.Rows (envOfC)
/-! ### a list of whatever == [] and != []; a test cut off from what comes behind it -/
section
variable {X : Cx}
theorem op_eqNil (hu : X.A.units + 1 < cLine) : OpR X (compareOp .Eq) (fun x y H Q => ∃ (a b : Addr) (xs : List V), x = .ref a ∧ y = .ref b ∧ H a = some (.lst xs) ∧ H b = some (.lst []) ∧ Q (.bl xs.isEmpty) H) := by
  intro pins s σ H x y v u Q I rx ry h
  obtain ⟨a, b, xs, rfl, rfl, ha, hb, q⟩ := h
  cases rx
  cases ry
  obtain ⟨us, r1, p1, _⟩ := I.list (SqL.of ha)
  obtain ⟨ws, r2, p2, _⟩ := I.list (SqL.of hb)
  cases r2
  cases r1 with
  | nil => exact SeqAt.RcAt.lists (e := fun _ => true) p1.isList p2.isList rfl (by omega) (fun j h1 _ => absurd h1 (by simp)) _ _ _ _ ⟨.bl true, H, I, rfl, q⟩
  | cons _ _ => exact SeqAt.RcAt.lists_lengths p1.isList p2.isList (by simp) (by omega) _ _ _ _ ⟨.bl false, H, I, rfl, q⟩
theorem op_neNil (hu : X.A.units + 1 < cLine) : OpR X (compareOp .NotEq) (fun x y H Q => ∃ (a b : Addr) (xs : List V), x = .ref a ∧ y = .ref b ∧ H a = some (.lst xs) ∧ H b = some (.lst []) ∧ Q (.bl (!xs.isEmpty)) H) := by
  intro pins s σ H x y v u Q I rx ry h
  obtain ⟨a, b, xs, rfl, rfl, ha, hb, q⟩ := h
  cases rx
  cases ry
  obtain ⟨us, r1, p1, _⟩ := I.list (SqL.of ha)
  obtain ⟨ws, r2, p2, _⟩ := I.list (SqL.of hb)
  cases r2
  cases r1 with
  | nil => exact SeqAt.RcNeAt.lists (e := fun _ => true) p1.isList p2.isList rfl (by omega) (fun j h1 _ => absurd h1 (by simp)) _ _ _ _ ⟨.bl false, H, I, rfl, q⟩
  | cons _ _ => exact SeqAt.RcNeAt.lists_lengths p1.isList p2.isList (by simp) (by omega) _ _ _ _ ⟨.bl true, H, I, rfl, q⟩
def tMidT (t : TT) : TT := fun σ H Q => ∃ Mid : Bool → Hp → Prop, t σ H Mid ∧ ∀ c H', Mid c H' → Q c H'
theorem pt_cut {e : Expr} {t : TT} (h : PT X e t) : PT X e (tMidT t) := by
  constructor
  intro pins s σ H Q I hq
  obtain ⟨Mid, h1, h2⟩ := hq
  exact thn (h.run pins s σ H Mid I h1) fun c s' ⟨H', I', q⟩ => ⟨H', I', h2 c H' q⟩
end
end Pz
namespace Pz
open PySem L2
open PyProof.Rows (envOfC)
/-! ### _law_made -/
theorem nm_num {x : Int} (h : Nm x) : NumOk x := by
  have e1 : (10 : Int) ^ 14 = 100000000000000 := by decide
  have e2 : (10 : Int) ^ 13 = 10000000000000 := by decide
  unfold Nm at h
  unfold NumOk
  omega
theorem GoodD.bd {cols : List Str} {kds : List KD} {chk : List (List Int)} (g : GoodD cols kds chk) : BD cols kds chk := by
  have rok : ∀ {row : List Int}, GoodRow cols row → RowOk row := fun h => ⟨by rw [h.1]; exact g.c.len, fun x hx => nm_num (h.2 x hx)⟩
  refine ⟨g.c.nm, g.c.len, fun k hk => ?_, Nat.le_trans g.len (by decide), fun row hr => rok (g.h row hr), Nat.le_trans g.hlen (by decide)⟩
  have gk := g.k k hk
  refine ⟨gk.nm, Nat.le_trans gk.len (by decide), fun row hr => rok (gk.rows row hr), Nat.le_trans gk.slen (by decide), fun s hs => ?_⟩
  obtain ⟨a, b, c, d, e⟩ := gk.st.stp s hs
  have := gk.len
  exact ⟨a, num_small b (by omega), num_small d (by omega)⟩
end Pz
namespace Pz
open PySem L2
open PyProof.Rows (envOfC)
/-! ### _law_spoiled of k03 -/
theorem Sm.ofF {w : Addr} {F H H' : Hp} (s : Same F H) (fw : F w = none) (m : Sm w H H') : Same F H' := fun b o e => m b o (fun z => by rw [z, fw] at e; cases e) (s _ _ e)
theorem HV.g {G G' H : Hp} {cols : List Str} {kds : List KD} {chs : List (List (Str × Int))} {th hc hk hh : Addr} {kas : List KB} (h : HV G H cols kds chs th hc hk hh kas) (s : Same G G') : HV G' H cols kds chs th hc hk hh kas :=
  ⟨h.top, h.c_, h.k_, h.len, fun j a k e1 e2 => (h.ct j a k e1 e2).g s, h.h_⟩
structure OddT (cols : List Str) (tb : List (Str × Int)) (ss : List Str) : Prop where
  len : tb.length ≤ 20 + ss.length
  odd : ∀ s ∈ keys tb, s ∉ cols → s ∈ ss
  st : ∀ s ∈ ss, s ∈ keys tb ∧ s ∉ cols
  ok : ∀ q ∈ tb, OkW q.1 ∧ NumOk q.2
theorem put_ok {tb : List (Str × Int)} {c : Str} {v : Int} (h : ∀ q ∈ tb, OkW q.1 ∧ NumOk q.2) (kc : OkW c) (hv : NumOk v) : ∀ q ∈ putTb tb c v, OkW q.1 ∧ NumOk q.2 := fun q hq => by
  refine ⟨?_, vals_put (q := NumOk) (fun q hq => (h q hq).2) hv q hq⟩
  rcases keys_put.mp (List.mem_map.mpr ⟨q, hq, rfl⟩) with z | z
  · rw [z]; exact kc
  · obtain ⟨q', h', e⟩ := List.mem_map.mp z
    rw [← e]; exact (h q' h').1
theorem OddT.put {cols : List Str} {tb : List (Str × Int)} {ss : List Str} (h : OddT cols tb ss) {c : Str} {v : Int} (hc : c ∉ cols) (kc : OkW c) (hv : NumOk v) : OddT cols (putTb tb c v) (ss ++ [c]) := by
  refine ⟨by rw [List.length_append]; have := len_put tb c v; have := h.len; simp; omega, fun s hs hn => ?_, fun s hs => ?_, put_ok h.ok kc hv⟩
  · rcases keys_put.mp hs with z | z
    · simp [z]
    · exact List.mem_append_left _ (h.odd s z hn)
  · rcases List.mem_append.mp hs with z | z
    · exact ⟨keys_put.mpr (.inr (h.st s z).1), (h.st s z).2⟩
    · have : s = c := by simpa using z
      rw [this]
      exact ⟨keys_put.mpr (.inl rfl), hc⟩
def spSpoiled : Sp := fun vs H Q _ => ∃ (w th hc hk hh : Addr) (cols : List Str) (kds : List KD) (chk : List (List Int)) (chs : List (List (Str × Int))) (kas : List KB) (dss : List (List Addr)) (hs : List Addr) (N : Nat) (G F' : Hp), vs = [.ref w, .ref th] ∧ Wl H w N ∧ N ≤ 900000 ∧ Same G H ∧ G w = none ∧ Same F' H ∧ F' w = none ∧
  (∀ b, F' b ≠ none → G b = none) ∧ HD G F' cols kds chs th hc hk hh kas ∧ HDd F' hh kas dss hs ∧ GB cols kds chk chs 38 8 ∧
  ∀ (p : Addr) (H2 : Hp) (F : Hp) (e : WhichE) (s : Str) (D : PyData), (∀ b o, b ≠ w → F' b = none → H b = some o → H2 b = some o) → Wl H2 w (N + 1000) → (hid w H2) th = some (.tup [.ref hc, .ref hk, .ref hh]) → (hid w H2) hc = some (.lst (cols.map V.str)) →
    (∀ H6, Same (hid w H2) H6 → SpoilT H6 F cols hk e s) → R (hid w H2) D (.ref th) → Shw 250000 5 D → R (hid w H2) (dErrT e s) (.ref p) → OkW s → Q (.ref p) H2
section
variable {P : Program} {w : World} {K : PySem.W.Frag} {mg : Str → Option Value} {base : Heap}
theorem ok_law_spoiled (TT : Txt2 K mg) : Fn P w K mg base 4 "_law_spoiled" ["well", "handed"] spSpoiled := by
  have T := TT.t
  have G_law_draw := ok_law_draw (P := P) (w := w) (base := base) T
  have G_law_word := ok_law_word (P := P) (w := w) (base := base) T
  have G_law_number := ok_law_number (P := P) (w := w) (base := base) T
  have G_law_strange_columns := ok_law_strange (P := P) (w := w) (base := base) TT
  refine TT.d_law_spoiled.fn sc_law_spoiled (fun vs H Q E h => ?_) (fun cdv A outer f s H vs Q E hr h => ?_)
  · obtain ⟨_, _, _, _, _, _, _, _, _, _, _, _, _, _, _, rfl, _⟩ := h; rfl
  · obtain ⟨w, th, hc, hk, hh, cols, kds, chk, chs, kas, dss, hs, N, G, F', rfl, hw, hN, sG, gw, sF, fw, gF, hd, dd, gb, q⟩ := h
    refine ⟨_, (pss_cons (ps_asg (pv 1) (pg_tup (by rfl) (pgs_cons (pg_name (i := 2) sc_law_spoiled.nd rfl (Or.inl rfl)) (pgs_cons (pg_name (i := 3) sc_law_spoiled.nd rfl (Or.inl rfl)) (pgs_cons (pg_name (i := 4) sc_law_spoiled.nd rfl (Or.inl rfl)) pgs_nil))))) (pss_cons (ps_set (i := 5) sc_law_spoiled.nd rfl (Or.inl rfl) (pe_fn G_law_draw (hr.mono (by decide)) (by rfl) (pa_cons (pv 0) (pa_cons pe_int pa_nil)))) (C8.pss_cut (ps_if (pt_cut (PW.pt (pw_or (pt_cmpR op_eq (pv 5) pe_int (nomark _)) (pw_or (pt_cmpR (op_eqNil (hu_of hr)) (pv 3) (pe_lst pa_nil) (nomark _)) (pw_or1 (pt_cut (PW.pt (pw_and (pt_cmpR op_eq (pv 5) pe_int (nomark _)) (pw_and1 (pt_cmpR (op_eqNil (hu_of hr)) (pv 2) (pe_lst pa_nil) (nomark _))))))))))) (pss_cons (ps_set (i := 6) sc_law_spoiled.nd rfl (Or.inl rfl) (pe_fn G_law_word (hr.mono (by decide)) (by rfl) (pa_cons (pv 0) (pa_cons (pe_lc (own := [("kind", 13)]) (g := gName 13) (by rfl) sc_law_spoiled.nd (pi_list (pv 3)) (blkOk_by (own := [("kind", 13)]) (N := ["well", "handed", "columns", "kinds", "checks", "way", "name", "steps", "states", "counts", "strange", "column", "number", "kind"]) (sc := defScope s_law_spoiled) (by decide +kernel)) (fun _ _ _ _ _ => pg_name (i := 13) sc_law_spoiled.nd rfl (by first | exact Or.inl rfl | exact Or.inr rfl)) (fun _ _ _ _ _ => pts_nil) (fun _ _ _ _ _ => (pe_ix (ix_tupK (K := K)) (pv 13) pe_int (fun _ _ => rfl)))) pa_nil)))) (pss_cons (ps_set (i := 7) sc_law_spoiled.nd rfl (Or.inl rfl) (pe_ix ix_list (pe_lst (pa_cons (pe_lst pa_nil) (pa_cons (pe_lst (pa_cons (pe_tup (pa_cons pe_str (pa_cons pe_int (pa_cons pe_int pa_nil)))) pa_nil)) (pa_cons (pe_lst (pa_cons (pe_tup (pa_cons pe_str (pa_cons pe_int (pa_cons pe_int pa_nil)))) pa_nil)) pa_nil)))) (pe_fn G_law_draw (hr.mono (by decide)) (by rfl) (pa_cons (pv 0) (pa_cons pe_int pa_nil))) (fun _ _ => rfl))) (pss_cons (ps_expr (pe_bm PySem.F.plainAttrs_list PySem.F.slot_list_insert PySem.F.type_list_insert mt_insert (pv 3) (pa_cons (pe_fn G_law_draw (hr.mono (by decide)) (by rfl) (pa_cons (pv 0) (pa_cons (pe_op op_add (pe_callB call_len_seq (by rfl) T.z_len (by decide +kernel) (pa_cons (pv 3) pa_nil)) pe_int) pa_nil))) (pa_cons (pe_tup (pa_cons (pv 6) (pa_cons (pe_lst pa_nil) (pa_cons (pv 7) pa_nil)))) pa_nil)))) (pss_one (ps_ret (pe_tup (pa_cons pe_str (pa_cons (pv 6) pa_nil)))))))) pss_nil) (pss_cons (ps_asg (pe_ix ix_list (pv 3) (pe_fn G_law_draw (hr.mono (by decide)) (by rfl) (pa_cons (pv 0) (pa_cons (pe_callB call_len_seq (by rfl) T.z_len (by decide +kernel) (pa_cons (pv 3) pa_nil)) pa_nil))) (fun _ _ => rfl)) (pg_tup (by rfl) (pgs_cons (pg_name (i := 6) sc_law_spoiled.nd rfl (Or.inl rfl)) (pgs_cons (pg_name (i := 8) sc_law_spoiled.nd rfl (Or.inl rfl)) (pgs_cons (pg_name (i := 7) sc_law_spoiled.nd rfl (Or.inl rfl)) pgs_nil))))) (C8.pss_cut (ps_if (pt_cmpR op_eq (pv 5) pe_int (nomark _)) (pss_cons (ps_set (i := 9) sc_law_spoiled.nd rfl (Or.inl rfl) (pe_ix ix_list (pv 8) (pe_fn G_law_draw (hr.mono (by decide)) (by rfl) (pa_cons (pv 0) (pa_cons (pe_callB call_len_seq (by rfl) T.z_len (by decide +kernel) (pa_cons (pv 8) pa_nil)) pa_nil))) (fun _ _ => rfl))) (pss_cons (ps_set (i := 10) sc_law_spoiled.nd rfl (Or.inl rfl) (pe_fn G_law_strange_columns (hr.mono (by decide)) (by rfl) (pa_cons (pv 0) (pa_cons (pv 2) pa_nil)))) (pss_cons (ps_for PassesOwn.never rfl (pi_list (pv 10)) (pg_name (i := 11) sc_law_spoiled.nd rfl (Or.inl rfl)) (pss_one (ps_dput (hu_of hr) (pv 9) (pv 11) (pe_fn G_law_number (hr.mono (by decide)) (by rfl) (pa_cons (pv 0) (pa_cons (pe_op op_sub (pe_op op_pow pe_int pe_int) pe_int) pa_nil))) rfl))) (pss_one (ps_ret (pe_tup (pa_cons pe_str (pa_cons (pe_callB (cr_minS rfl) (by rfl) T.z_min (by decide +kernel) (pa_cons (pv 10) pa_nil)) pa_nil)))))))) pss_nil) (pss_cons (ps_set (i := 9) sc_law_spoiled.nd rfl (Or.inl rfl) (pe_ix ix_list (pv 8) pe_int (fun _ _ => rfl))) (pss_cons (ps_set (i := 12) sc_law_spoiled.nd rfl (Or.inl rfl) (pe_op op_add pe_int (pe_fn G_law_draw (hr.mono (by decide)) (by rfl) (pa_cons (pv 0) (pa_cons (pe_op op_sub (pe_op op_pow pe_int pe_int) pe_int) pa_nil))))) (pss_cons (ps_dput (hu_of hr) (pv 9) (pe_ix ix_list (pv 2) (pe_fn G_law_draw (hr.mono (by decide)) (by rfl) (pa_cons (pv 0) (pa_cons (pe_callB call_len_seq (by rfl) T.z_len (by decide +kernel) (pa_cons (pv 2) pa_nil)) pa_nil))) (fun _ _ => rfl)) (pe_ix ix_list (pe_lst (pa_cons (pv 12) (pa_cons (pe_op op_sub pe_int (pv 12)) (pa_cons pe_int (pa_cons (pe_op op_sub pe_int pe_int) pa_nil))))) (pe_fn G_law_draw (hr.mono (by decide)) (by rfl) (pa_cons (pv 0) (pa_cons pe_int pa_nil))) (fun _ _ => rfl)) rfl) (pss_one (ps_ret (pe_tup (pa_cons pe_str (pa_cons (pv 6) pa_nil))))))))))))), ?_⟩
    have hd_c := hd.c_
    have hd_k := hd.k_
    have nck := hd.ne
    have nkh : hk ≠ hh := fun z => hd.sep hk (.inr (.inl rfl)) (by rw [z]; exact List.mem_cons_self)
    have nka : ∀ a ∈ kas, hk ≠ a.2.1 := fun a ha z => hd.sep hk (.inr (.inl rfl)) (by rw [z]; exact List.mem_cons_of_mem _ (List.mem_map.mpr ⟨a, ha, rfl⟩))
    have sn1 := List.nodup_cons.mp hd.sn
    have sn2 := List.nodup_cons.mp sn1.2
    have nks : ∀ a ∈ kas, hk ≠ a.2.2 := fun a ha z => sn2.1 (by rw [z]; exact List.mem_map.mpr ⟨a, ha, rfl⟩)
    have gp := gb.p (by decide) (by decide)
    have rb := gb.rb (by decide) (by decide)
    have gc := gb.c
    have cl20 := gc.len
    have kl8 := gb.kl
    have kl := hd.len
    have kml : (kas.map fun a => V.ref a.1).length = kds.length := by rw [List.length_map, kl]
    have nw : ∀ b o, F' b = some o → b ≠ w := fun b o e z => by rw [z, fw] at e; cases e
    have htop := sF _ _ hd.top
    have fin : ∀ (HB H5 G' : Hp) (D5 : Addr) (o5 u5 : HO) (M : Nat) (e : WhichE) (s : Str) (kds' : List KD) (kas' : List KB), Sm w H HB → (∀ b o, b ≠ w → b ≠ D5 → HB b = some o → H5 b = some o) → H5 D5 = some u5 → Wl H5 w M → M ≤ N + 1000 → F' D5 = some o5 →
        HV G' (upd (hid w HB) D5 u5) cols kds' chs th hc hk hh kas' → Same G' (upd (hid w HB) D5 u5) → RB cols kds' chs → (∀ H6, Same (upd (hid w HB) D5 u5) H6 → SpoilT H6 G' cols hk e s) → OkW s → ∀ p, H5 p = none → Q (.ref p) (upd H5 p (.tup [.str e.t, .str s])) := by
      intro HB H5 G' D5 o5 u5 M e s kds' kas' sm k5 h5 wl hM e5 hv sG' rb' sp so p hp
      have sp5 := same_upd (o := .tup [.str e.t, .str s]) hp
      have nD := nw _ _ e5
      have pw : p ≠ w := fun z => wl.ne (z ▸ hp)
      have sub2 : Same (upd (hid w HB) D5 u5) (hid w (upd H5 p (.tup [.str e.t, .str s]))) := fun b o e' => by
        have nb : b ≠ w := fun z => by rw [z, upd_ne (Ne.symm nD), hid_at] at e'; cases e'
        rw [hid_ne nb]
        refine sp5 _ _ ?_
        by_cases c : b = D5
        · subst c; rw [upd_same] at e'; rw [h5]; exact e'
        · rw [upd_ne c] at e'; exact k5 b o nb c (hid_sub b o e')
      have hv' := hv.mono sub2
      refine q p _ G' e s _ (fun b o nb fb e' => sp5 _ _ (k5 b o nb (fun z => by rw [z, e5] at fb; cases fb) (sm b o nb e'))) ((wl.same sp5).mono hM) hv'.top hv'.c_ (fun H6 s6 => sp _ (sub2.trans s6)) (hv'.R (sG'.trans sub2)) rb'.shw
        (R_two (by rw [hid_ne pw]; exact upd_same) (by simp only [R]) (by simp only [R])) so
    have sameG : ∀ {H5 : Hp} {D5 : Addr} {o5 u5 : HO}, Sm w H H5 → F' D5 = some o5 → Same G (upd (hid w H5) D5 u5) := fun {H5 D5 o5 u5} sm e5 b o e => by
      rw [upd_ne (fun z => by rw [z, gF D5 (by rw [e5]; exact fun y => nomatch y)] at e; cases e)]
      exact to_hid (Sm.ofF sG gw sm) gw b o e
    refine ⟨_, rfl, th, _, rfl, SqT.of htop, rfl, _, _, rfl, _, _, rfl, _, _, rfl, rfl, ?_⟩
    refine ⟨_, rfl, w, 3, _, (by rfl), hw, by omega, by decide, by decide, fun way H1 way0 way1 s1 w1 => ?_⟩
    have hk1 := Sm.ofF sF fw s1 _ _ hd_k
    have hc1 := Sm.ofF sF fw s1 _ _ hd_c
    refine ⟨fun σ' H' => σ' = [some (.ref w), some (.ref th), some (.ref hc), some (.ref hk), some (.ref hh), some (.int way), none, none, none, none, none, none, none, none] ∧ way ≠ 0 ∧ 0 < kds.length ∧ (way = 2 → 0 < cols.length) ∧ Same H1 H', ?_, ?_⟩
    · refine ⟨fun b H' => (b = false → way ≠ 0 ∧ 0 < kds.length ∧ (way = 2 → 0 < cols.length)) ∧ Same H1 H', ?_, ?_⟩
      · refine ⟨_, rfl, rfl, _, rfl, ?_⟩
        refine ite2 (fun _ => ⟨fun z => (nomatch z), Same.refl _⟩) (fun c0 => ?_)
        have n0 : way ≠ 0 := fun z => c0 (by rw [z]; decide)
        refine ⟨_, rfl, (by decide), fun p1 hp1 => ?_⟩
        have sp1 := same_upd (o := .lst []) hp1
        refine ⟨hk, p1, _, rfl, rfl, sp1 _ _ hk1, upd_same, _, rfl, ?_⟩
        refine ite2 (fun _ => ⟨fun z => (nomatch z), sp1⟩) (fun c1 => ?_)
        have k0 : 0 < kds.length := by
          cases e : kas with
          | nil => rw [e] at c1; exact absurd rfl c1
          | cons a l => rw [← kl, e]; exact Nat.succ_pos _
        refine ⟨fun b H' => (b = false → (way = 2 → 0 < cols.length)) ∧ Same H1 H', ?_, ?_⟩
        · refine ⟨_, rfl, rfl, _, rfl, ?_⟩
          refine ite2 (fun c2 => ?_) (fun c2 => ⟨fun _ z => absurd (by rw [z]; decide) c2, sp1⟩)
          refine ⟨_, rfl, (by decide), fun p2 hp2 => ?_⟩
          have sp2 := sp1.trans (same_upd (o := .lst []) hp2)
          refine ⟨hc, p2, _, rfl, rfl, sp2 _ _ hc1, upd_same, _, rfl, fun c3 _ => ?_, sp2⟩
          cases e : cols with
          | nil => rw [e] at c3; cases c3
          | cons a l => exact Nat.succ_pos _
        · rintro b H' ⟨h1, h2⟩
          cases b with
          | true => exact ⟨fun z => (nomatch z), h2⟩
          | false => exact ⟨fun _ => ⟨n0, k0, h1 rfl⟩, h2⟩
      · rintro b H2 ⟨hb, s2⟩
        refine ite2 (fun _ => ?_) (fun c => ?_)
        rotate_left
        · have : b = false := by cases b with
            | true => exact absurd rfl c
            | false => rfl
          obtain ⟨h1, h2, h3⟩ := hb this
          exact ⟨rfl, h1, h2, h3, s2⟩
        clear hb
        have w2 := w1.same s2
        have sm2 := s1.trans (Sm.same s2)
        have hk2 := s2 _ _ hk1
        have sF2 := Sm.ofF sF fw sm2
        refine ⟨_, rfl, _, rfl, hk, rfl, ⟨_, SqL.of hk2⟩, fun D hD => ?_⟩
        refine lc_list (K := K) (a := hk) (xs := kas.map fun a => V.ref a.1) (tt := tYes) (fun i H' => Same H2 H' ∧ H' D = some (.lst ((kds.take i).map fun k => V.str k.name)))
          ⟨same_upd hD, upd_same⟩ (fun i H' _ ⟨s, _⟩ => SqL.of (s _ _ hk2)) ?_ ?_
        · rintro i y H' hy ⟨sy, hl⟩
          rw [List.getElem?_map] at hy
          obtain ⟨a, ea, rfl⟩ := Option.map_eq_some_iff.mp hy
          have hi : i < kds.length := by rw [← kl]; exact (List.getElem?_eq_some_iff.mp ea).1
          have ei : kds[i]? = some kds[i] := List.getElem?_eq_getElem hi
          obtain ⟨ha1, _⟩ := (hd.ct i a _ ea ei).mono (sF2.trans sy)
          refine ⟨rfl, _, rfl, a.1, _, _, _, rfl, rfl, SqT.of ha1, rfl, ?_⟩
          refine ⟨_, hl, by rw [List.length_map, List.length_take]; exact small1000 (by omega), fun b o e => ?_, ?_⟩
          · rw [upd_ne (fun z => by rw [z, hD] at e; cases e)]; exact sy _ _ e
          · rw [upd_same, List.take_add_one, ei, List.map_append]; rfl
        rintro H3 ⟨s3, hl⟩
        rw [List.take_of_length_le (by omega)] at hl
        have hl' : H3 D = some (.lst ((kds.map (·.name)).map V.str)) := by rw [List.map_map]; exact hl
        refine ⟨w, D, kds.map (·.name), _, (by rfl), hl', w2.same s3, by omega, by rw [List.length_map]; omega, fun x hx => ?_, fun nm H4 hnm nin s4 w4 => ?_⟩
        · obtain ⟨k, hk', rfl⟩ := List.mem_map.mp hx
          exact (gp.k k hk').nm
        have sm4 := (sm2.trans (Sm.same s3)).trans s4
        clear s3 hl hl' hD
        refine ⟨(show 0 ≤ sizeLine by decide), fun q0 hq0 => ?_⟩
        have nq0 : hk ≠ q0 := fun z => by have := Sm.ofF sF fw sm4 _ _ hd_k; rw [z, hq0] at this; cases this
        have t0 := same_upd (o := .lst []) hq0
        have e0 : (upd H4 q0 (.lst [])) q0 = some (.lst []) := upd_same
        have w5 := w4.same t0
        have sm5 := sm4.trans (Sm.same t0)
        generalize upd H4 q0 (.lst []) = H5 at *
        refine ⟨(show 3 ≤ sizeLine by decide), fun q1 hq1 => ?_⟩
        have t1 := same_upd (o := .tup [.str "go", .int 0, .int 0]) hq1
        have e1 : (upd H5 q1 (.tup [.str "go", .int 0, .int 0])) q1 = some (.tup [.str "go", .int 0, .int 0]) := upd_same
        have e0 := t1 _ _ e0
        have w6 := w5.same t1
        have sm6 := sm5.trans (Sm.same t1)
        have gq1 : G q1 = none := same_none (Sm.ofF sG gw sm5) hq1
        have wq1 : q1 ≠ w := fun z => w5.ne (z ▸ hq1)
        generalize upd H5 q1 (.tup [.str "go", .int 0, .int 0]) = H6 at *
        refine ⟨(show 1 ≤ sizeLine by decide), fun q2 hq2 => ?_⟩
        have nq2 : hk ≠ q2 := fun z => by have := Sm.ofF sF fw sm6 _ _ hd_k; rw [z, hq2] at this; cases this
        have t2 := same_upd (o := .lst [.ref q1]) hq2
        have e2 : (upd H6 q2 (.lst [.ref q1])) q2 = some (.lst [.ref q1]) := upd_same
        have e0 := t2 _ _ e0
        have e1 := t2 _ _ e1
        have w7 := w6.same t2
        have sm7 := sm6.trans (Sm.same t2)
        generalize upd H6 q2 (.lst [.ref q1]) = H7 at *
        refine ⟨(show 3 ≤ sizeLine by decide), fun q3 hq3 => ?_⟩
        have t3 := same_upd (o := .tup [.str "", .int 0, .int 1]) hq3
        have e3 : (upd H7 q3 (.tup [.str "", .int 0, .int 1])) q3 = some (.tup [.str "", .int 0, .int 1]) := upd_same
        have e0 := t3 _ _ e0
        have e1 := t3 _ _ e1
        have e2 := t3 _ _ e2
        have w8 := w7.same t3
        have sm8 := sm7.trans (Sm.same t3)
        have gq3 : G q3 = none := same_none (Sm.ofF sG gw sm7) hq3
        have wq3 : q3 ≠ w := fun z => w7.ne (z ▸ hq3)
        generalize upd H7 q3 (.tup [.str "", .int 0, .int 1]) = H8 at *
        refine ⟨(show 1 ≤ sizeLine by decide), fun q4 hq4 => ?_⟩
        have nq4 : hk ≠ q4 := fun z => by have := Sm.ofF sF fw sm8 _ _ hd_k; rw [z, hq4] at this; cases this
        have t4 := same_upd (o := .lst [.ref q3]) hq4
        have e4 : (upd H8 q4 (.lst [.ref q3])) q4 = some (.lst [.ref q3]) := upd_same
        have e0 := t4 _ _ e0
        have e1 := t4 _ _ e1
        have e2 := t4 _ _ e2
        have e3 := t4 _ _ e3
        have w9 := w8.same t4
        have sm9 := sm8.trans (Sm.same t4)
        generalize upd H8 q4 (.lst [.ref q3]) = H9 at *
        refine ⟨(show 3 ≤ sizeLine by decide), fun q5 hq5 => ?_⟩
        have t5 := same_upd (o := .lst [.ref q0, .ref q2, .ref q4]) hq5
        have e5 : (upd H9 q5 (.lst [.ref q0, .ref q2, .ref q4])) q5 = some (.lst [.ref q0, .ref q2, .ref q4]) := upd_same
        have e0 := t5 _ _ e0
        have e1 := t5 _ _ e1
        have e2 := t5 _ _ e2
        have e3 := t5 _ _ e3
        have e4 := t5 _ _ e4
        have w10 := w9.same t5
        have sm10 := sm9.trans (Sm.same t5)
        have wq5 : q5 ≠ w := fun z => w9.ne (z ▸ hq5)
        generalize upd H9 q5 (.lst [.ref q0, .ref q2, .ref q4]) = H10 at *
        refine ⟨_, rfl, w, 3, _, (by rfl), w10, by omega, by decide, by decide, fun r HA r0 r1 sA wA => ?_⟩
        have smA := sm10.trans sA
        have nl : ∀ {b : Addr} {l : List V}, (∀ x ∈ l, ∃ p, x = V.ref p) → H10 b = some (.lst l) → b ≠ w := fun {b l} h e z => by
          obtain ⟨_, _, _, e', _⟩ := id w10
          rw [z, e'] at e
          cases e
          obtain ⟨_, h⟩ := h _ List.mem_cons_self
          cases h
        have a0 := sA _ _ (nl (l := []) (fun x h => by cases h) e0) e0
        have a2 := sA _ _ (nl (fun x h => ⟨q1, List.mem_singleton.mp h⟩) e2) e2
        have a4 := sA _ _ (nl (fun x h => ⟨q3, List.mem_singleton.mp h⟩) e4) e4
        have a5 := sA _ _ wq5 e5
        have a1 := sA _ _ wq1 e1
        have a3 := sA _ _ wq3 e3
        have n31 : q3 ≠ q1 := fun z => by rw [z, a1] at a3; cases a3
        have pick : ∃ (st : Addr) (zs : List V) (steps : List (Str × Int × Int)), atI [V.ref q0, V.ref q2, V.ref q4] r = some (.ref st) ∧ HA st = some (.lst zs) ∧ RA (upd (upd G q1 (.tup [.str "go", .int 0, .int 0])) q3 (.tup [.str "", .int 0, .int 1])) (steps.map dStep) zs ∧ steps.length ≤ 1 ∧ hk ≠ st ∧ ∀ s ∈ steps, OkW s.1 ∧ NumOk s.2.1 ∧ NumOk s.2.2 := by
          have three : r = 0 ∨ r = 1 ∨ r = 2 := by omega
          rcases three with rfl | rfl | rfl
          · exact ⟨q0, [], [], rfl, a0, by simp [RA], by decide, nq0, fun s h => nomatch h⟩
          · refine ⟨q2, _, [("go", 0, 0)], rfl, a2, RA_of rfl fun i d x f1 f2 => ?_, by decide, nq2, fun s h => ?_⟩
            · cases i with
              | succ i => simp at f2
              | zero =>
                cases f1
                cases f2
                exact R_dStep.mpr ⟨q1, rfl, by rw [upd_ne (Ne.symm n31)]; exact upd_same⟩
            · rw [List.mem_singleton.mp h]
              exact ⟨⟨by decide +kernel, by decide +kernel⟩, num_small (by decide) (by decide), num_small (by decide) (by decide)⟩
          · refine ⟨q4, _, [("", 0, 1)], rfl, a4, RA_of rfl fun i d x f1 f2 => ?_, by decide, nq4, fun s h => ?_⟩
            · cases i with
              | succ i => simp at f2
              | zero =>
                cases f1
                cases f2
                exact R_dStep.mpr ⟨q3, rfl, upd_same⟩
            · rw [List.mem_singleton.mp h]
              exact ⟨⟨by decide +kernel, by decide +kernel⟩, num_small (by decide) (by decide), num_small (by decide) (by decide)⟩
        obtain ⟨st, zs, steps, at_, hst, hra, stl, nst, sok⟩ := pick
        refine ⟨q5, _, _, _, rfl, rfl, SqL.of a5, at_, ?_⟩
        have hkA := Sm.ofF sF fw smA _ _ hd_k
        refine ⟨_, rfl, .inl ⟨rfl, _, SqL.of hkA⟩, _, rfl, _, rfl, hk, _, rfl, .inl (SqL.of hkA), _, _, rfl, rfl, w, _, _, (by rfl), wA, by omega, by rw [kml]; omega, by rw [kml]; exact Int.lt_of_le_of_lt (show (kds.length : Int) + 1 ≤ 21 by omega) (by decide), fun r2 HC r20 r21 sC wC => ?_⟩
        rw [kml] at r21
        have smC := smA.trans sC
        have hkC := Sm.ofF sF fw smC _ _ hd_k
        have wst : st ≠ w := fun z => by
          obtain ⟨_, _, _, e', _⟩ := id wA
          rw [z, e'] at hst
          cases hst
          have := RA.len hra
          simp at this
          omega
        have cst := sC _ _ wst hst
        have c1 := sC _ _ wq1 a1
        have c3 := sC _ _ wq3 a3
        refine ⟨_, rfl, (show 0 ≤ sizeLine by decide), fun pe hpe => ?_⟩
        have u1 := same_upd (o := .lst []) hpe
        have ee : (upd HC pe (.lst [])) pe = some (.lst []) := upd_same
        have wD := wC.same u1
        have smD := smC.trans (Sm.same u1)
        have wpe : pe ≠ w := fun z => wC.ne (z ▸ hpe)
        have npe : hk ≠ pe := fun z => by rw [z, hpe] at hkC; cases hkC
        generalize upd HC pe (.lst []) = HD_ at *
        refine ⟨_, rfl, (show 3 ≤ sizeLine by decide), fun pt hpt => ?_⟩
        have u2 := same_upd (o := .tup [.str nm, .ref pe, .ref st]) hpt
        have et : (upd HD_ pt (.tup [.str nm, .ref pe, .ref st])) pt = some (.tup [.str nm, .ref pe, .ref st]) := upd_same
        have ee := u2 _ _ ee
        have est := u2 _ _ (u1 _ _ cst)
        have ec1 := u2 _ _ (u1 _ _ c1)
        have ec3 := u2 _ _ (u1 _ _ c3)
        have wE := wD.same u2
        have smE := smD.trans (Sm.same u2)
        have wpt : pt ≠ w := fun z => wD.ne (z ▸ hpt)
        generalize upd HD_ pt (.tup [.str nm, .ref pe, .ref st]) = HE at *
        have hkE := Sm.ofF sF fw smE _ _ hd_k
        refine ⟨hk, _, r2, _, rfl, rfl, hkE, by rw [kml]; exact Nat.lt_of_le_of_lt (show kds.length ≤ 20 by omega) (by decide), r20, Int.lt_of_le_of_lt (show r2 ≤ 100 by omega) (by decide), ?_⟩
        refine ⟨_, rfl, (show 2 ≤ sizeLine by decide), fun p hp => ?_⟩
        have il : r2.toNat ≤ kds.length := by omega
        have sGE := Sm.ofF sG gw smE
        have m1 : Same G (upd (upd G q1 (.tup [.str "go", .int 0, .int 0])) q3 (.tup [.str "", .int 0, .int 1])) := (same_upd (o := .tup [.str "go", .int 0, .int 0]) gq1).trans (fun b o e => by
          by_cases c : b = q3
          · rw [c] at e
            by_cases c2 : q3 = q1
            · exact absurd c2 n31
            · rw [upd_ne c2, gq3] at e; cases e
          · rw [upd_ne c]; exact e)
        have hn : HKa (upd (upd G q1 (.tup [.str "go", .int 0, .int 0])) q3 (.tup [.str "", .int 0, .int 1])) (hid w HE) ⟨nm, [], [], steps⟩ (pt, pe, st) :=
          ⟨by rw [hid_ne wpt]; exact et, R_list.mpr ⟨pe, [], rfl, by rw [hid_ne wpe]; exact ee, by simp [RA]⟩, zs, by rw [hid_ne wst]; exact est, hra⟩
        have hv := ((hd.hv (to_hid (Sm.ofF sF fw smE) fw)).g m1).kin nck nkh nka nks (i := r2.toNat) (by omega) hn npe nst
        have sGG : Same (upd (upd G q1 (.tup [.str "go", .int 0, .int 0])) q3 (.tup [.str "", .int 0, .int 1])) (upd (hid w HE) hk (.lst (insA r2.toNat (.ref pt) (kas.map fun a => V.ref a.1)))) := fun b o e => by
          by_cases c3 : b = q3
          · rw [c3, upd_same] at e
            rw [c3, upd_ne (show q3 ≠ hk from fun z => by rw [z, hkE] at ec3; cases ec3), hid_ne wq3]
            exact ec3.trans e
          · rw [upd_ne c3] at e
            by_cases c1 : b = q1
            · rw [c1, upd_same] at e
              rw [c1, upd_ne (show q1 ≠ hk from fun z => by rw [z, hkE] at ec1; cases ec1), hid_ne wq1]
              exact ec1.trans e
            · rw [upd_ne c1] at e
              exact sameG smE hd_k _ _ e
        refine fin HE _ _ hk _ _ _ .n nm _ _ smE (fun b o nb nb2 e => by rw [upd_ne nb2]; exact e) upd_same (wE.put (nw _ _ hd_k)) (by omega) hd_k hv sGG ⟨rb.c, rb.cl, fun k hk' => ?_, by rw [insA_len il]; omega, rb.h, rb.hl⟩ (fun H6 s6 => ?_) (okw_nm hnm) p hp
        · rcases insA_mem hk' with z | z
          · rw [z]
            exact ⟨okw_nm hnm, Nat.zero_le _, (fun tb h => nomatch h), Nat.le_trans stl (by decide), sok⟩
          · exact rb.k k z
        · have ia : r2.toNat ≤ kas.length := by omega
          exact spoil_at (hv.mono s6) (sGG.trans s6) gc (j := r2.toNat) (k := ⟨nm, [], [], steps⟩) (a := (pt, pe, st)) (by rw [insA_at ia, if_neg (by omega), if_pos rfl]) (by rw [insA_at il, if_neg (by omega), if_pos rfl]) (insA_take il) (fun k h => gp.k k (List.mem_of_mem_take h)) (by rw [List.map_take]; exact gp.nd.sublist (List.take_sublist _ _)) (by omega) hnm
            (fun z => nin (by rw [List.map_take] at z; exact List.mem_of_mem_take z)) (Nat.zero_le _) (fun tb h => nomatch h) (.none rfl)
    rintro σ' H2 ⟨rfl, n0, k0, c0, s2⟩
    have w2 := w1.same s2
    have sm2 := s1.trans (Sm.same s2)
    have hk2 := s2 _ _ hk1
    clear s1 w1 hk1 hc1 s2
    refine ⟨_, rfl, _, rfl, _, rfl, hk, _, rfl, .inl (SqL.of hk2), w, _, _, (by rfl), w2, by omega, by rw [kml]; omega, by rw [kml]; exact Int.lt_of_le_of_lt (show (kds.length : Int) ≤ 20 by omega) (by decide), fun r3 H3 r30 r31 s3 w3 => ?_⟩
    rw [kml] at r31
    have sm3 := sm2.trans s3
    have sF3 := Sm.ofF sF fw sm3
    have hk3 := sF3 _ _ hd_k
    obtain ⟨j, rfl⟩ := Int.eq_ofNat_of_zero_le r30
    have ej : kds[j]? = some (kds[j]'(by omega)) := List.getElem?_eq_getElem (by omega)
    generalize kds[j]'(by omega) = k at ej
    obtain ⟨a, ea⟩ := at_len kl.symm ej
    have atk : atI (kas.map fun a => V.ref a.1) (j : Int) = some (.ref a.1) := atI_nat (by rw [List.getElem?_map, ea]; rfl)
    have hmem := List.mem_of_getElem? ej
    have gk := gp.k k hmem
    have gk2 := gb.k k hmem
    have sul := gk2.len
    have sun := gk.ne
    obtain ⟨f1, f2, zs, f3, f4⟩ := hd.ct j a k ea ej
    have ed : dss[j]? = some (dss[j]'(by rw [dd.len]; omega)) := List.getElem?_eq_getElem (by rw [dd.len]; omega)
    generalize dss[j]'(by rw [dd.len]; omega) = ds at ed
    have f5 := dd.at_ j a ds ea ed
    have ta := R_tabs f2 f5
    have dl := ta.len
    refine ⟨hk, _, _, _, rfl, rfl, SqL.of hk3, atk, a.1, _, rfl, SqT.of (sF3 _ _ f1), rfl, _, _, rfl, _, _, rfl, _, _, rfl, rfl, ?_⟩
    have fin2 : ∀ (i0 : Nat) (p0 : Addr) (tb tb' : List (Str × Int)) (HB H5 : Hp) (M : Nat) (e : WhichE) (s : Str), ds[i0]? = some p0 → k.sums[i0]? = some tb → Sm w H HB → (∀ b o, b ≠ w → b ≠ p0 → HB b = some o → H5 b = some o) → H5 p0 = some (.dK (eSum tb')) → Wl H5 w M → M ≤ N + 1000 → TB tb' →
        Wr cols k.name (k.sums.set i0 tb') e s → OkW s → ∀ p, H5 p = none → Q (.ref p) (upd H5 p (.tup [.str e.t, .str s])) := by
      intro i0 p0 tb tb' HB H5 M e s ep et sm k5 h5 wl hM tb5 wr so p hp
      have e5 := ta.at_ i0 p0 tb ep et
      have hv := (hd.hv (to_hid (Sm.ofF sF fw sm) fw)).tab (dd.mono (to_hid (Sm.ofF sF fw sm) fw)) (tb' := tb') ea ej ed ep
      have jlt := (List.getElem?_eq_some_iff.mp ej).1
      refine fin HB H5 G p0 _ _ M e s _ kas sm k5 h5 wl hM e5 hv (sameG sm e5) ⟨rb.c, rb.cl, fun k' hk' => ?_, by rw [List.length_set]; exact rb.kl, rb.h, rb.hl⟩ (fun H6 s6 => ?_) so p hp
      · rcases List.mem_or_eq_of_mem_set hk' with z | z
        · exact rb.k k' z
        · have g := rb.k k hmem
          rw [z]
          refine ⟨g.nm, by rw [List.length_set]; exact g.sl, fun t ht => ?_, g.tl, g.t⟩
          rcases List.mem_or_eq_of_mem_set ht with y | y
          · exact g.s t y
          · rw [y]; exact tb5
      · exact spoil_at (hv.mono s6) ((sameG sm e5).trans s6) gc ea (List.getElem?_set_self jlt) take_set (fun k h => gp.k k (List.mem_of_mem_take h)) (by rw [List.map_take]; exact gp.nd.sublist (List.take_sublist _ _)) (by omega) gk.nm (fun z => nin_take gp.nd ej z) (by rw [List.length_set]; exact gk.len)
          (fun t ht => by
            rcases List.mem_or_eq_of_mem_set ht with y | y
            · exact (gk.sums t y).1
            · rw [y]; have := tb5.1; omega) wr
    refine ⟨fun σ' H' => σ' = [some (.ref w), some (.ref th), some (.ref hc), some (.ref hk), some (.ref hh), some (.int way), some (.str k.name), some (.ref a.2.2), some (.ref a.2.1), none, none, none, none, none] ∧ way = 2 ∧ H' = H3, ?_, ?_⟩
    · refine ⟨_, rfl, rfl, _, rfl, ?_⟩
      refine ite2 (fun c1 => ?_) (fun c1 => ⟨rfl, ?_, rfl⟩)
      rotate_left
      · have : way ≠ 1 := fun z => c1 (by rw [z]; decide)
        omega
      refine ⟨_, rfl, _, rfl, _, rfl, a.2.1, _, rfl, .inl (SqL.of (sF3 _ _ f5)), w, _, _, (by rfl), w3, by omega, by rw [List.length_map]; omega, by rw [List.length_map]; exact Int.lt_of_le_of_lt (show (ds.length : Int) ≤ 40 by omega) (by decide), fun r4 H4 r40 r41 s4 w4 => ?_⟩
      rw [List.length_map] at r41
      have sm4 := sm3.trans s4
      have sF4 := Sm.ofF sF fw sm4
      obtain ⟨i0, rfl⟩ := Int.eq_ofNat_of_zero_le r40
      have ep : ds[i0]? = some (ds[i0]'(by omega)) := List.getElem?_eq_getElem (by omega)
      have et : k.sums[i0]? = some (k.sums[i0]'(by omega)) := List.getElem?_eq_getElem (by omega)
      generalize ds[i0]'(by omega) = p0 at ep
      generalize k.sums[i0]'(by omega) = tb at et
      have hp0 := ta.at_ i0 p0 tb ep et
      refine ⟨a.2.1, _, _, _, rfl, rfl, SqL.of (sF4 _ _ f5), atI_nat (by rw [List.getElem?_map, ep]; rfl), ?_⟩
      refine ⟨_, rfl, _, rfl, w, hc, cols, _, (by rfl), sF4 _ _ hd_c, w4, by omega, nw _ _ hd_c, cl20, gc.nm, fun pS ss H5 hpS ss0 ss3 ok s5 w5 v5 => ?_⟩
      have sm5 := sm4.trans s5
      have sF5 := Sm.ofF sF fw sm5
      have nSw : pS ≠ w := fun z => w4.ne (z ▸ hpS)
      have n0w := nw _ _ hp0
      have nS0 : pS ≠ p0 := fun z => by have := sF5 _ _ hp0; rw [← z, v5] at this; cases this
      have tk := gk2.sok tb (List.mem_of_getElem? et)
      have t0 : OddT cols tb [] := ⟨Nat.le_trans tk.len (Nat.le_refl _), fun s hs hn => by
        obtain ⟨q, hq, rfl⟩ := List.mem_map.mp hs
        exact absurd (tk.key q hq) hn, (fun s h => nomatch h), fun q hq => ⟨okw_nm (gc.nm _ (tk.key q hq)), tk.num q hq⟩⟩
      refine ⟨_, rfl, pS, rfl, ⟨_, SqL.of v5⟩, for_list (K := K) (a := pS) (xs := ss.map V.str)
        (fun i σ H' => ∃ (v11 : Option V) (tb' : List (Str × Int)), σ = [some (.ref w), some (.ref th), some (.ref hc), some (.ref hk), some (.ref hh), some (.int way), some (.str k.name), some (.ref a.2.2), some (.ref a.2.1), some (.ref p0), some (.ref pS), v11, none, none] ∧
          (∀ b o, b ≠ w → b ≠ p0 → H5 b = some o → H' b = some o) ∧ H' p0 = some (.dK (eSum tb')) ∧ Wl H' w (N + 600 + 10 * i) ∧ OddT cols tb' (ss.take i))
        ⟨none, tb, rfl, fun b o _ _ e => e, sF5 _ _ hp0, w5.mono (by omega), t0⟩ (fun i σ H' _ ⟨_, _, _, kp, _⟩ => SqL.of (kp _ _ nSw nS0 v5)) ?_ ?_⟩
      · rintro i x σ H' hx ⟨v11, tb', rfl, kp, e0, wl, ot⟩
        rw [List.getElem?_map] at hx
        obtain ⟨sx, ex, rfl⟩ := Option.map_eq_some_iff.mp hx
        have hi := (List.getElem?_eq_some_iff.mp ex).1
        have okx := ok sx (List.mem_of_getElem? ex)
        refine ⟨_, rfl, _, _, rfl, rfl, ⟨by decide, by decide, by decide⟩, _, _, rfl, rfl, w, (10 : Int) ^ 12 - 1, _, (by rfl), wl, by omega, by decide, by decide, fun r H6 nr s6 w6 => ?_⟩
        have e6 := s6 _ _ n0w e0
        have ol := ot.len
        rw [List.length_take] at ol
        refine ⟨_, rfl, _, rfl, p0, _, rfl, DPut.k (k := Sum.inr sx) e6 ?_, ?_⟩
        · unfold eSum; rw [List.length_map]; exact small1000 (by omega)
        rw [eSum_put]
        refine ⟨_, _, rfl, fun b o nb nb2 e => ?_, upd_same, (w6.put n0w).mono (by omega), ?_⟩
        · rw [upd_ne nb2]; exact s6 _ _ nb (kp b o nb nb2 e)
        · rw [List.take_add_one, ex]
          exact ot.put okx.2 okx.1 (nm_num nr)
      · rintro σ H' ⟨v11, tb', rfl, kp, e0, wl, ot⟩
        rw [List.length_map] at wl ot
        rw [List.take_of_length_le (Nat.le_refl _)] at ot
        refine ⟨_, rfl, pS, ss, rfl, SqL.of (kp _ _ nSw nS0 v5), ss0, fun m hm le => ?_⟩
        refine ⟨(show 2 ≤ sizeLine by decide), fun p hp => ?_⟩
        have ol := ot.len
        have hi0 := (List.getElem?_eq_some_iff.mp et).1
        exact fin2 i0 p0 tb tb' H5 H' _ .u m ep et sm5 kp e0 wl (by omega) ⟨by omega, ot.ok⟩
          (.odd (i := i0) (tb := tb') (List.getElem?_set_self hi0) (fun t ht => by rw [take_set] at ht; exact good_fits gk.sums t (List.mem_of_mem_take ht)) ⟨(ot.st m hm).1, (ot.st m hm).2, fun s' h1 h2 => le s' (ot.odd s' h1 h2)⟩) (ok m hm).1 p hp
    rintro σ' H4 ⟨rfl, rfl, rfl⟩
    have cpos := c0 rfl
    obtain ⟨p0, ep⟩ : ∃ p, ds[0]? = some p := ⟨_, List.getElem?_eq_getElem (by omega)⟩
    obtain ⟨tb, et⟩ : ∃ tb, k.sums[0]? = some tb := ⟨_, List.getElem?_eq_getElem (by omega)⟩
    have hp0 := ta.at_ 0 p0 tb ep et
    have n0w := nw _ _ hp0
    refine ⟨_, rfl, a.2.1, _, 0, _, rfl, rfl, SqL.of (sF3 _ _ f5), atI_nat (j := 0) (by rw [List.getElem?_map, ep]; rfl), ?_⟩
    refine ⟨_, rfl, _, _, rfl, rfl, ⟨by decide, by decide, by decide⟩, _, _, rfl, rfl, w, _, _, (by rfl), w3, by omega, by decide, by decide, fun r5 H5 r50 r51 s5 w5 => ⟨_, _, rfl, rfl, ?_⟩⟩
    have sm5 := sm3.trans s5
    refine ⟨_, rfl, _, rfl, _, _, rfl, rfl, _, _, rfl, rfl, (show 4 ≤ sizeLine by decide), fun q0 hq0 => ?_⟩
    obtain ⟨n, hn⟩ : ∃ n : Int, n = 1 + r5 := ⟨_, rfl⟩
    have e12 : (10 : Int) ^ (12 : Int).toNat - 1 = 999999999999 := by decide
    have n1 : 1 ≤ n := by omega
    have n2 : n ≤ 999999999999 := by
      have : r5 < 999999999999 := by rw [← e12]; exact r51
      omega
    have t0 := same_upd (o := .lst [.int (1 + r5), .int (0 - (1 + r5)), .int 1, .int (0 - 1)]) hq0
    have v0 : (upd H5 q0 (.lst [.int (1 + r5), .int (0 - (1 + r5)), .int 1, .int (0 - 1)])) q0 = some (.lst [.int (1 + r5), .int (0 - (1 + r5)), .int 1, .int (0 - 1)]) := upd_same
    have w6 := w5.same t0
    have sm6 := sm5.trans (Sm.same t0)
    have nq0 : q0 ≠ w := fun z => w5.ne (z ▸ hq0)
    refine ⟨_, rfl, w, 4, _, (by rfl), w6, by omega, by decide, by decide, fun r7 H7 r70 r71 s7 w7 => ?_⟩
    have sm7 := sm6.trans s7
    have v7 := s7 _ _ nq0 v0
    rw [← hn] at v7
    have pick : ∃ v : Int, atI [V.int n, V.int (0 - n), V.int 1, V.int (0 - 1)] r7 = some (.int v) ∧ v ≠ 0 ∧ NumOk v := by
      have num : ∀ {x : Int}, -999999999999 ≤ x → x ≤ 999999999999 → NumOk x := fun {x} h1 h2 => by
        have e : (10 : Int) ^ 14 = 100000000000000 := by decide
        unfold NumOk
        omega
      have four : r7 = 0 ∨ r7 = 1 ∨ r7 = 2 ∨ r7 = 3 := by omega
      rcases four with rfl | rfl | rfl | rfl
      · exact ⟨_, rfl, by omega, num (by omega) (by omega)⟩
      · exact ⟨_, rfl, by omega, num (by omega) (by omega)⟩
      · exact ⟨_, rfl, by omega, num (by omega) (by omega)⟩
      · exact ⟨_, rfl, by omega, num (by omega) (by omega)⟩
    obtain ⟨v, hv, v00, vn⟩ := pick
    refine ⟨q0, _, _, _, rfl, rfl, SqL.of v7, hv, ?_⟩
    have hc7 := Sm.ofF sF fw sm7 _ _ hd_c
    refine ⟨_, rfl, _, rfl, _, rfl, _, rfl, hc, _, rfl, .inl (SqL.of hc7), w, _, _, (by rfl), w7, by omega, by rw [List.length_map]; omega, by rw [List.length_map]; exact Int.lt_of_le_of_lt (show (cols.length : Int) ≤ 20 by omega) (by decide), fun r8 H8 r80 r81 s8 w8 => ?_⟩
    rw [List.length_map] at r81
    have sm8 := sm7.trans s8
    obtain ⟨jc, rfl⟩ := Int.eq_ofNat_of_zero_le r80
    have ec : cols[jc]? = some (cols[jc]'(by omega)) := List.getElem?_eq_getElem (by omega)
    generalize cols[jc]'(by omega) = col at ec
    have cm := List.mem_of_getElem? ec
    have hp8 := Sm.ofF sF fw sm8 _ _ hp0
    have tk := gk2.sok tb (List.mem_of_getElem? et)
    have tkl := tk.len
    refine ⟨hc, _, _, _, rfl, rfl, SqL.of (Sm.ofF sF fw sm8 _ _ hd_c), atI_nat (by rw [List.getElem?_map, ec]; rfl), ?_⟩
    refine ⟨p0, _, rfl, DPut.k (k := Sum.inr col) hp8 ?_, ?_⟩
    · unfold eSum; rw [List.length_map]; exact small1000 (by omega)
    rw [eSum_put]
    refine ⟨_, rfl, (show 2 ≤ sizeLine by decide), fun p hp => ?_⟩
    have hi0 := (List.getElem?_eq_some_iff.mp et).1
    refine fin2 0 p0 tb (putTb tb col v) H8 (upd H8 p0 (.dK (eSum (putTb tb col v)))) _ .s k.name ep et sm8 (fun b o nb nb2 e => by rw [upd_ne nb2]; exact e) upd_same (w8.put n0w) (by omega) ⟨by have := len_put tb col v; omega, put_ok (fun q hq => ⟨okw_nm (gc.nm _ (tk.key q hq)), tk.num q hq⟩) (okw_nm (gc.nm _ cm)) vn⟩
      (.start (tb := putTb tb col v) (fun t ht => ?_) (List.getElem?_set_self hi0) (fun z => ?_)) (okw_nm gk.nm) p hp
    · rcases List.mem_or_eq_of_mem_set ht with y | y
      · exact good_fits gk.sums t y
      · rw [y]
        intro q hq
        rcases keys_put.mp (List.mem_map.mpr ⟨q, hq, rfl⟩) with z | z
        · rw [z]; exact cm
        · obtain ⟨q', h', e⟩ := List.mem_map.mp z
          rw [← e]; exact tk.key q' h'
    · have h1 : look (putTb tb col v) col ∈ zeros cols := by rw [← z]; exact List.mem_map.mpr ⟨col, cm, rfl⟩
      rw [look_put, if_pos rfl] at h1
      unfold zeros at h1
      exact v00 (List.eq_of_mem_replicate h1)
end
end Pz
namespace Pz
open PySem L2
open PyProof.Rows (envOfC)
/-! ### _law_right of k03 -/
def spRight : Sp := fun vs H Q _ => ∃ (w : Addr), vs = [.ref w] ∧ Wl H w 0 ∧ ∀ H' : Hp, Sm w H H' → Q (.bl true) H'
theorem fit_err {e : WhichE} {s : Str} (h : OkW s) : (dErrT e s).showable = true ∧ (dErrT e s).shown.length ≤ sizeLine ∧ (dErrT e s).depth ≤ 100 := by
  refine ((shw_tup (m := 50) (n := 1) (l := 2) (ds := [.str e.t, .str s]) (fun x hx => ?_) (Nat.le_refl 2)).mono (m' := 400) (n' := 2) (by decide) (Nat.le_refl _)).fits (by decide) (by decide)
  rcases List.mem_cons.mp hx with rfl | hx
  · cases e
    · exact (shw_str (m := 50) (by decide +kernel) (by decide +kernel)).mono (Nat.le_refl _) (by decide)
    · exact (shw_str (m := 50) (by decide +kernel) (by decide +kernel)).mono (Nat.le_refl _) (by decide)
    · exact (shw_str (m := 50) (by decide +kernel) (by decide +kernel)).mono (Nat.le_refl _) (by decide)
  · rw [List.mem_singleton.mp hx]; exact (shw_str h.1 h.2).mono (by decide) (by decide)
section
variable {P : Program} {w : World} {K : PySem.W.Frag} {mg : Str → Option Value} {base : Heap} {C : Addr} {c : ECs}
theorem ok_law_right (TT : Txt2 K mg) (L : PlanT K mg C) (EE : Errs K mg c) (hs : ∃ o, base.get? sysModules = some o) : FnG P w K mg base 9 "_law_right" ["well"] spRight := by
  have T := TT.t
  have G_law_data := ok_law_data (P := P) (w := w) (base := base) T
  have G_law_handed := ok_law_handed2 (P := P) (w := w) (base := base) T
  have G_law_spoiled := ok_law_spoiled (P := P) (w := w) (base := base) TT
  have G_law_said := ok_law_said (P := P) (w := w) (base := base) TT L EE
  have G_law_plan := ok_law_plan (P := P) (w := w) (base := base) TT L
  have G_law_shows := ok_law_shows (P := P) (w := w) (base := base) TT L hs
  refine TT.d_law_right.fnG sc_law_right (fun vs H Q E h => ?_) (fun cdv A outer f s H vs Q hg hr h => ?_)
  · obtain ⟨_, rfl, _⟩ := h; rfl
  · obtain ⟨w, rfl, hw, q⟩ := h
    refine ⟨_, (pss_cons (ps_set (i := 1) sc_law_right.nd rfl (Or.inl rfl) (pe_fn G_law_data (hr.mono (by decide)) (by rfl) (pa_cons (pv 0) (pa_cons (pe_tup (pa_cons pe_int (pa_cons pe_int (pa_cons pe_int (pa_cons pe_int (pa_cons pe_int pa_nil)))))) (pa_cons (pe_op op_sub (pe_op op_pow pe_int pe_int) pe_int) pa_nil))))) (pss_cons (ps_set (i := 2) sc_law_right.nd rfl (Or.inl rfl) (pe_fn G_law_handed (hr.mono (by decide)) (by rfl) (pa_cons (pv 0) (pa_cons (pv 1) pa_nil)))) (pss_cons (ps_set (i := 3) sc_law_right.nd rfl (Or.inl rfl) (pe_callB (cr_repr hg hr hs) (by rfl) T.z_repr (by decide +kernel) (pa_cons (pe_fn G_law_spoiled (hr.mono (by decide)) (by rfl) (pa_cons (pv 0) (pa_cons (pv 2) pa_nil))) pa_nil))) (pss_cons (ps_set (i := 4) sc_law_right.nd rfl (Or.inl rfl) (pe_callB (cr_repr hg hr hs) (by rfl) T.z_repr (by decide +kernel) (pa_cons (pv 2) pa_nil))) (pss_cons (ps_if (PW.pt (pw_or (pt_cmpR op_ne (pe_callB (cr_repr hg hr hs) (by rfl) T.z_repr (by decide +kernel) (pa_cons (pe_fn G_law_said (hr.mono (by decide)) (by rfl) (pa_cons (pv 2) pa_nil)) pa_nil)) (pv 3) (nomark _)) (pw_or1 (pt_cmpR op_ne (pe_callB (cr_repr hg hr hs) (by rfl) T.z_repr (by decide +kernel) (pa_cons (pv 2) pa_nil)) (pv 4) (nomark _))))) (pss_one (ps_ret pe_bl)) pss_nil) (pss_cons (ps_if (pt_not (pt_val (pe_fnG G_law_shows hg (hr.mono (by decide)) (by rfl) (pa_cons (pe_fn G_law_plan (hr.mono (by decide)) (by rfl) (pa_cons (pv 0) (pa_cons (pv 1) pa_nil))) (pa_cons (pv 1) (pa_cons pe_int pa_nil)))))) (pss_one (ps_ret pe_bl)) pss_nil) (pss_one (ps_ret (pe_cmpR op_eq (pe_callB (cr_repr hg hr hs) (by rfl) T.z_repr (by decide +kernel) (pa_cons (pe_fn G_law_said (hr.mono (by decide)) (by rfl) (pa_cons (pv 2) pa_nil)) pa_nil)) (pv 3) (nomark _)))))))))), ?_⟩
    refine ⟨_, rfl, (show 5 ≤ sizeLine by decide), fun mt hmt => ?_⟩
    have s1 := same_upd (o := .tup [V.int 12, V.int 7, V.int 4, V.int 4, V.int 3]) hmt
    have w1 := hw.same s1
    refine ⟨_, _, rfl, rfl, ⟨by decide, by decide, by decide⟩, _, _, rfl, rfl, ?_⟩
    refine ⟨w, mt, 12, 7, 4, 4, 3, (10 : Int) ^ 12 - 1, _, emp, (by rfl), upd_same, w1, by decide, emp_same _, rfl, ⟨by decide, by decide, by decide, by decide, by decide⟩, by decide, by decide, fun t1 c ks ch cols kds chk kas H2 G good tg s2 w2 D => ?_⟩
    have sm3 : Sm w H H2 := (Sm.same s1).trans s2
    have gw : G w = none := D.gr.out rfl w1.ne
    have DA3 : DatAt (hid w H2) t1 cols kds chk := by
      have Dt : Dat G H2 t1 cols kds chk c ks ch kas := ⟨D.top, D.c_, D.k_, D.len, D.ct, D.ch_, D.fch⟩
      exact Dt.at_ (to_hid D.gr.sub gw) fun b hb o e => by rw [hid_ne (D.fr b hb).2]; exact e
    clear D gw s2 w1 s1 tg
    have bd := good.bd
    refine ⟨_, rfl, _, rfl, w, t1, cols, kds, chk, _, hid w H2, (by rfl), hid_sub, hid_at, DA3.din hid_sub hid_at, good, w2, by omega, fun th hc hk hh kds' chs kas' H4 F4 kl ws cl hv s4 w4 g4 hd ⟨dss, hs_, dd⟩ => ?_⟩
    have newF : ∀ b, F4 b ≠ none → H2 b = none := fun b hb => (g4.new b hb).elim (fun z => absurd rfl z) id
    have fw : F4 w = none := g4.out rfl w2.ne
    have gb := GB.of good kl ws cl hv
    have sG : Same (hid w H2) H4 := fun b o e => s4 b o (fun z => by rw [z, hid_at] at e; cases e) (hid_sub b o e)
    refine ⟨_, rfl, _, rfl, w, th, hc, hk, hh, cols, kds', chk, chs, kas', dss, hs_, _, hid w H2, F4, (by rfl), w4, by omega, sG, hid_at, g4.sub, fw, fun b hb => ?_, hd, dd, gb, fun p H5 F5 d s D fr w5 ht5 hc5 sp5 RD5 shD Rp5 es => ?_⟩
    · by_cases z : b = w
      · rw [z]; exact hid_at
      · rw [hid_ne z]; exact newF b hb
    have fe := fit_err (e := d) es
    obtain ⟨ED, hED⟩ : ∃ e, e = dErrT d s := ⟨_, rfl⟩
    rw [← hED] at fe Rp5
    have fD := shD.fits (by decide) (by decide)
    have sm35 : Sm w H2 H5 := fun b o nb e => fr b o nb (by
      cases z : F4 b with
      | none => rfl
      | some u => have := newF b (by rw [z]; exact fun y => nomatch y); rw [this] at e; cases e) (s4 b o nb e)
    have sm5 := sm3.trans sm35
    have DA5 := DA3.mono (hid_mono sm35)
    clear s4 g4 hd dd fr sG newF fw w4 DA3 w2
    refine ⟨_, _, _, rfl, hid_sub, Rp5, fe.1, fe.2.1, fe.2.2, ?_⟩
    refine ⟨_, rfl, _, _, _, rfl, hid_sub, RD5, fD.1, fD.2.1, fD.2.2, ?_⟩
    refine ⟨_, rfl, th, hc, hk, hh, cols, F5, d, s, (by rfl), hid_sub _ _ ht5, hid_sub _ _ hc5, sp5 _ hid_sub, fun q1 H6 s6 R6 => ?_⟩
    rw [← hED] at R6
    refine ⟨_, _, _, rfl, Same.refl _, R6, fe.1, fe.2.1, fe.2.2, _, rfl, rfl, _, rfl, ?_⟩
    refine ite2 (fun c => absurd c (by simp)) (fun _ => ?_)
    refine ⟨_, rfl, _, _, _, rfl, hid_sub.trans s6, RD5, fD.1, fD.2.1, fD.2.2, _, rfl, rfl, _, rfl, ?_⟩
    refine ite2 (fun c => absurd c (by simp)) (fun _ => ?_)
    have sm56 : Sm w H5 H6 := Sm.same s6
    refine ⟨_, rfl, _, rfl, w, t1, cols, kds, chk, _, (by rfl), w5.same s6, by omega, DA5.mono (hid_mono sm56), good, fun pl H7 s7 w7 PA7 _ => ?_⟩
    have sm57 := sm56.trans s7
    refine ⟨_, rfl, hid w H7, pl, t1, 0, cols, kds, chk, (by rfl), hid_sub, PA7, (DA5.mono (hid_mono sm56)).mono (hid_mono s7), bd, fun H8 s8 => ?_⟩
    refine ⟨_, rfl, ?_⟩
    refine ite2 (fun c => absurd c (by simp)) (fun _ => ?_)
    have sm58 := sm57.trans (Sm.same s8)
    have h58 : Same (hid w H5) H8 := (hid_mono sm58).trans hid_sub
    refine ⟨_, rfl, th, hc, hk, hh, cols, F5, d, s, (by rfl), h58 _ _ ht5, h58 _ _ hc5, sp5 _ h58, fun q2 H9 s9 R9 => ?_⟩
    rw [← hED] at R9
    refine ⟨_, _, _, rfl, Same.refl _, R9, fe.1, fe.2.1, fe.2.2, _, rfl, ?_⟩
    have e := q H9 (sm5.trans (sm58.trans (Sm.same s9)))
    exact ⟨rfl, (show Q (.bl (decide (V.str ED.shown = V.str ED.shown))) H9 by rw [decide_eq_true rfl]; exact e)⟩
end
end Pz
namespace Pz
open PySem L2
open PyProof.Rows (envOfC)
/-! ### law -/
def spLaw (K : PySem.W.Frag) : Sp := fun vs H Q _ => ∃ (a : Addr) (ns : List Int), vs = [.ref a] ∧ ns.length ≤ 63 ∧ SqL K H a (ns.map V.int) ∧ ∀ H' : Hp, Q (.bl true) H'
theorem cut_ints (ns : List Int) (lo hi : Option Int) : ∃ ms : List Int, cutV (ns.map V.int) lo hi = ms.map V.int ∧ ms.length ≤ ns.length := by
  refine ⟨(ns.drop (HT.sIx (ns.map V.int).length 0 lo)).take (HT.sIx (ns.map V.int).length (ns.map V.int).length hi - HT.sIx (ns.map V.int).length 0 lo), ?_, ?_⟩
  · unfold cutV
    rw [List.map_take, List.map_drop]
  · rw [List.length_take, List.length_drop]; omega
theorem hasDict_ints (ns : List Int) : PyData.hasDictAll (ns.map PyData.int) = false := by
  induction ns with
  | nil => simp [PyData.hasDictAll]
  | cons n ns ih => simp only [List.map_cons, PyData.hasDictAll, PyData.hasDict, ih]; rfl
section
variable {P : Program} {w : World} {K : PySem.W.Frag} {mg : Str → Option Value} {base : Heap} {C : Addr} {c : ECs}
theorem ok_law (TT : Txt2 K mg) (L : PlanT K mg C) (EE : Errs K mg c) (hs : ∃ o, base.get? sysModules = some o) : FnG P w K mg base 10 "law" ["script"] (spLaw K) := by
  have T := TT.t
  have G_law_well := ok_law_well (P := P) (w := w) (base := base) T
  have G_law_right := ok_law_right (P := P) (w := w) (base := base) TT L EE hs
  refine TT.d_law.fnG sc_law (fun vs H Q E h => ?_) (fun cdv A outer f s H vs Q hg hr h => ?_)
  · obtain ⟨_, _, rfl, _⟩ := h; rfl
  · obtain ⟨a, ns, rfl, nl, hS, q⟩ := h
    refine ⟨_, (pss_cons (ps_set (i := 1) sc_law.nd rfl (Or.inl rfl) (pe_op op_cat (pe_slice sl_list (pv 0) po_none (po_some pe_int)) (pe_op op_rep (pe_lst (pa_cons pe_int pa_nil)) (pe_callTy call_int1 (by rfl) T.z_int (by decide +kernel) (pa_cons (pe_cmpR (op_eqD hr.units) (pv 0) (pe_lst pa_nil) (nomark _)) pa_nil))))) (pss_cons (ps_for PassesOwn.never rfl (pi_range1 rfl T.z_range (pa_cons (pe_callB call_len_seq (by rfl) T.z_len (by decide +kernel) (pa_cons (pv 1) pa_nil)) pa_nil)) (pg_name (i := 2) sc_law.nd rfl (Or.inl rfl)) (pss_one (ps_if (pt_not (pt_val (pe_fnG G_law_right hg (hr.mono (by decide)) (by rfl) (pa_cons (pe_fn G_law_well (hr.mono (by decide)) (by rfl) (pa_cons (pe_ix ix_list (pv 1) (pv 2) (fun _ _ => rfl)) (pa_cons (pv 2) pa_nil))) pa_nil)))) (pss_one (ps_ret pe_bl)) pss_nil))) (pss_one (ps_ret pe_bl)))), ?_⟩
    obtain ⟨ms, hms, ml⟩ := cut_ints ns none (some 14)
    refine ⟨_, rfl, _, rfl, a, _, rfl, hS, fun p1 hp1 => ?_⟩
    rw [hms]
    have s1 := same_upd (o := .lst (ms.map V.int)) hp1
    refine ⟨(show 1 ≤ sizeLine by decide), fun p2 hp2 => ?_⟩
    have s2 := same_upd (o := .lst [.int 0]) hp2
    refine ⟨_, rfl, (by decide), fun p3 hp3 => ?_⟩
    have s3 := same_upd (o := .lst []) hp3
    have hS3 := s3.seq (s2.seq (s1.seq hS))
    refine ⟨dInts ns, .list [], Dp.lst hS3 (RA.dp _ _ (RA.ints ns) (hasDict_ints ns)), R.dpp (R_list.mpr ⟨p3, [], rfl, upd_same, by simp [RA]⟩) (Same.refl _) (by simp [plain, plainAll]), shaped_of (plain_dInts _) (Nat.le_trans (depth_dInts _) (by decide)), by decide, .inr ⟨_, rfl, ?_⟩⟩
    generalize hb : PyData.eqv (dInts ns) (.list []) = b
    obtain ⟨m, hm, hm1⟩ : ∃ m : Int, (if b then (1 : Int) else 0) = m ∧ 0 ≤ m ∧ m ≤ 1 := by cases b <;> exact ⟨_, rfl, by decide, by decide⟩
    have h2v := s3 _ _ (upd_same (H := upd H p1 (.lst (ms.map V.int))) (a := p2) (o := .lst [.int 0]))
    refine ⟨p2, _, [.int 0], rfl, rfl, h2v, ?_, ?_, ?_, fun p4 hp4 => ?_⟩
    · cases b <;> decide
    · cases b <;> decide
    · cases b <;> decide
    have er : ∃ zs : List Int, (List.replicate (if b = true then (1 : Int) else 0).toNat [V.int 0]).flatten = zs.map V.int ∧ zs.length ≤ 1 := by
      cases b
      · exact ⟨[], rfl, by decide⟩
      · exact ⟨[0], rfl, by decide⟩
    obtain ⟨zs, ez, zl⟩ := er
    rw [ez]
    have s4 := same_upd (o := .lst (zs.map V.int)) hp4
    refine ⟨p1, p4, _, _, rfl, rfl, s4 _ _ (s3 _ _ (s2 _ _ upd_same)), upd_same, ?_, fun p5 hp5 => ?_⟩
    · rw [List.length_map, List.length_map]
      exact Nat.le_trans (show ms.length + zs.length ≤ 64 by omega) (by decide)
    rw [← List.map_append]
    have cl : (ms ++ zs).length ≤ 64 := by rw [List.length_append]; omega
    have h5 : (upd (upd (upd (upd (upd H p1 (.lst (ms.map V.int))) p2 (.lst [.int 0])) p3 (.lst [])) p4 (.lst (zs.map V.int))) p5 (.lst ((ms ++ zs).map V.int))) p5 = some (.lst ((ms ++ zs).map V.int)) := upd_same
    generalize ms ++ zs = cs at *
    refine ⟨_, rfl, p5, _, rfl, .inl (SqL.of h5), _, rfl, by rw [List.length_map]; omega, by rw [List.length_map]; omega, for_range (lo := 0) (n := ((cs.map V.int).length : Int).toNat)
      (fun i σ H' => ∃ v2, σ = [some (.ref a), some (.ref p5), v2] ∧ H' p5 = some (.lst (cs.map V.int))) ⟨none, rfl, h5⟩ ?_ ?_⟩
    · rintro i σ H' hi ⟨v2, rfl, hc⟩
      have hi' : i < cs.length := by rw [List.length_map] at hi; omega
      have ei : cs[i]? = some cs[i] := List.getElem?_eq_getElem hi'
      have at_ : atI (cs.map V.int) (0 + (i : Int)) = some (.int cs[i]) := by rw [Int.zero_add]; exact atI_nat (by rw [List.getElem?_map, ei]; rfl)
      refine ⟨_, rfl, _, rfl, p5, _, _, _, rfl, rfl, SqL.of hc, at_, _, rfl, cs[i], _, (by rfl), by omega, by omega, fun wl H1 hwl sH hW => ?_⟩
      refine ⟨wl, rfl, hW, fun H2 sm => ⟨_, rfl, ?_⟩⟩
      refine ite2 (fun c => absurd c (by simp)) (fun _ => ?_)
      exact ⟨_, rfl, sm _ _ (fun z => by rw [z, hwl] at hc; cases hc) (sH _ _ hc)⟩
    · rintro σ H' ⟨v2, rfl, hc⟩
      exact q H'
end
end Pz

namespace Pz
open PySem L2
open PyProof.Rows (envOfC)
/-! ### what the top has written -/
theorem all_mk {P : Program} {w : World} {K : PySem.W.Frag} {h base : Heap} {mg : Str → Option Value} {C f1 f2 f3 f4 f5 f6 f7 f8 f9 f10 f11 f12 f13 f14 f15 f16 f17 f18 f19 f20 f21 f22 f23 f24 f25 f26 f27 f28 f29 CE1 CE2 CE3 CE4 CE5 CE6 CE7 CE8 : Addr} {t_0 t_1 : Tok} (X : K.In h) (G : h.Ns mainGlobals mg) (hs : ∃ o, base.get? sysModules = some o)
    {od1 an1 : Option Addr} {sl1 : Array (Option Value)} {oc1 kV1 dc1 pm1 cd1 ct1 : Value}
    {od2 an2 : Option Addr} {sl2 : Array (Option Value)} {oc2 kV2 dc2 pm2 cd2 ct2 : Value}
    {od3 an3 : Option Addr} {sl3 : Array (Option Value)} {oc3 kV3 dc3 pm3 cd3 ct3 : Value}
    {od4 an4 : Option Addr} {sl4 : Array (Option Value)} {oc4 kV4 dc4 pm4 cd4 ct4 : Value}
    {od5 an5 : Option Addr} {sl5 : Array (Option Value)} {oc5 kV5 dc5 pm5 cd5 ct5 : Value}
    {od6 an6 : Option Addr} {sl6 : Array (Option Value)} {oc6 kV6 dc6 pm6 cd6 ct6 : Value}
    {od7 an7 : Option Addr} {sl7 : Array (Option Value)} {oc7 kV7 dc7 pm7 cd7 ct7 : Value}
    {od8 an8 : Option Addr} {sl8 : Array (Option Value)} {oc8 kV8 dc8 pm8 cd8 ct8 : Value}
    {od9 an9 : Option Addr} {sl9 : Array (Option Value)} {oc9 kV9 dc9 pm9 cd9 ct9 : Value}
    {od10 an10 : Option Addr} {sl10 : Array (Option Value)} {oc10 kV10 dc10 pm10 cd10 ct10 : Value}
    {od11 an11 : Option Addr} {sl11 : Array (Option Value)} {oc11 kV11 dc11 pm11 cd11 ct11 : Value}
    {od12 an12 : Option Addr} {sl12 : Array (Option Value)} {oc12 kV12 dc12 pm12 cd12 ct12 : Value}
    {od13 an13 : Option Addr} {sl13 : Array (Option Value)} {oc13 kV13 dc13 pm13 cd13 ct13 : Value}
    {od14 an14 : Option Addr} {sl14 : Array (Option Value)} {oc14 kV14 dc14 pm14 cd14 ct14 : Value}
    {od15 an15 : Option Addr} {sl15 : Array (Option Value)} {oc15 kV15 dc15 pm15 cd15 ct15 : Value}
    {od16 an16 : Option Addr} {sl16 : Array (Option Value)} {oc16 kV16 dc16 pm16 cd16 ct16 : Value}
    {od17 an17 : Option Addr} {sl17 : Array (Option Value)} {oc17 kV17 dc17 pm17 cd17 ct17 : Value}
    {od18 an18 : Option Addr} {sl18 : Array (Option Value)} {oc18 kV18 dc18 pm18 cd18 ct18 : Value}
    {od19 an19 : Option Addr} {sl19 : Array (Option Value)} {oc19 kV19 dc19 pm19 cd19 ct19 : Value}
    {od20 an20 : Option Addr} {sl20 : Array (Option Value)} {oc20 kV20 dc20 pm20 cd20 ct20 : Value}
    {od21 an21 : Option Addr} {sl21 : Array (Option Value)} {oc21 kV21 dc21 pm21 cd21 ct21 : Value}
    {od22 an22 : Option Addr} {sl22 : Array (Option Value)} {oc22 kV22 dc22 pm22 cd22 ct22 : Value}
    {od23 an23 : Option Addr} {sl23 : Array (Option Value)} {oc23 kV23 dc23 pm23 cd23 ct23 : Value}
    {od24 an24 : Option Addr} {sl24 : Array (Option Value)} {oc24 kV24 dc24 pm24 cd24 ct24 : Value}
    {od25 an25 : Option Addr} {sl25 : Array (Option Value)} {oc25 kV25 dc25 pm25 cd25 ct25 : Value}
    {p26 : Addr} {rest26 : List Value}
    {od26 an26 : Option Addr} {sl26 : Array (Option Value)} {oc26 kV26 dc26 pm26 cd26 ct26 : Value}
    {p27 : Addr} {rest27 : List Value}
    {od27 an27 : Option Addr} {sl27 : Array (Option Value)} {oc27 kV27 dc27 pm27 cd27 ct27 : Value}
    {p28 : Addr} {rest28 : List Value}
    {od28 an28 : Option Addr} {sl28 : Array (Option Value)} {oc28 kV28 dc28 pm28 cd28 ct28 : Value}
    {od29 an29 : Option Addr} {sl29 : Array (Option Value)} {oc29 kV29 dc29 pm29 cd29 ct29 : Value}
    {en1 eq1 : Str} {eN1 : Addr} {ebs1 : List Value} {esn1 : List Str} {esu1 : List Value} {eab1 : Bool} {eco1 : Option Bool} {edd1 : Option Addr} {em1a em1b em1c em1d em1e : Option Value}
    {en2 eq2 : Str} {eN2 : Addr} {ebs2 : List Value} {esn2 : List Str} {esu2 : List Value} {eab2 : Bool} {eco2 : Option Bool} {edd2 : Option Addr} {em2a em2b em2c em2d em2e : Option Value}
    {en3 eq3 : Str} {eN3 : Addr} {ebs3 : List Value} {esn3 : List Str} {esu3 : List Value} {eab3 : Bool} {eco3 : Option Bool} {edd3 : Option Addr} {em3a em3b em3c em3d em3e : Option Value}
    {en4 eq4 : Str} {eN4 : Addr} {ebs4 : List Value} {esn4 : List Str} {esu4 : List Value} {eab4 : Bool} {eco4 : Option Bool} {edd4 : Option Addr} {em4a em4b em4c em4d em4e : Option Value}
    {en5 eq5 : Str} {eN5 : Addr} {ebs5 : List Value} {esn5 : List Str} {esu5 : List Value} {eab5 : Bool} {eco5 : Option Bool} {edd5 : Option Addr} {em5a em5b em5c em5d em5e : Option Value}
    {en6 eq6 : Str} {eN6 : Addr} {ebs6 : List Value} {esn6 : List Str} {esu6 : List Value} {eab6 : Bool} {eco6 : Option Bool} {edd6 : Option Addr} {em6a em6b em6c em6d em6e : Option Value}
    {en7 eq7 : Str} {eN7 : Addr} {ebs7 : List Value} {esn7 : List Str} {esu7 : List Value} {eab7 : Bool} {eco7 : Option Bool} {edd7 : Option Addr} {em7a em7b em7c em7d em7e : Option Value}
    {en8 eq8 : Str} {eN8 : Addr} {ebs8 : List Value} {esn8 : List Str} {esu8 : List Value} {eab8 : Bool} {eco8 : Option Bool} {edd8 : Option Addr} {em8a em8b em8c em8d em8e : Option Value}
    (a1 : PySem.W.nsIn K mainGlobals "_law_well" = some (some (.ref f1)))
    (l1 : K.lookup f1 = some ⟨oc1, od1, .func (PySem.W.fnOf "_law_well" "_law_well" (defArgs s_law_well) (defBody s_law_well) (defScope s_law_well) .none kV1 dc1 pm1 an1 cd1 ct1), sl1⟩) (c1 : PySem.W.codeIn K cd1 "_law_well" = true) (k1 : PySem.W.keepIn K (.ref f1) = true)
    (a2 : PySem.W.nsIn K mainGlobals "_law_draw" = some (some (.ref f2)))
    (l2 : K.lookup f2 = some ⟨oc2, od2, .func (PySem.W.fnOf "_law_draw" "_law_draw" (defArgs s_law_draw) (defBody s_law_draw) (defScope s_law_draw) .none kV2 dc2 pm2 an2 cd2 ct2), sl2⟩) (c2 : PySem.W.codeIn K cd2 "_law_draw" = true) (k2 : PySem.W.keepIn K (.ref f2) = true)
    (a3 : PySem.W.nsIn K mainGlobals "_law_number" = some (some (.ref f3)))
    (l3 : K.lookup f3 = some ⟨oc3, od3, .func (PySem.W.fnOf "_law_number" "_law_number" (defArgs s_law_number) (defBody s_law_number) (defScope s_law_number) .none kV3 dc3 pm3 an3 cd3 ct3), sl3⟩) (c3 : PySem.W.codeIn K cd3 "_law_number" = true) (k3 : PySem.W.keepIn K (.ref f3) = true)
    (a4 : PySem.W.nsIn K mainGlobals "_law_counts" = some (some (.ref f4)))
    (l4 : K.lookup f4 = some ⟨oc4, od4, .func (PySem.W.fnOf "_law_counts" "_law_counts" (defArgs s_law_counts) (defBody s_law_counts) (defScope s_law_counts) .none kV4 dc4 pm4 an4 cd4 ct4), sl4⟩) (c4 : PySem.W.codeIn K cd4 "_law_counts" = true) (k4 : PySem.W.keepIn K (.ref f4) = true)
    (a5 : PySem.W.nsIn K mainGlobals "_law_word" = some (some (.ref f5)))
    (l5 : K.lookup f5 = some ⟨oc5, od5, .func (PySem.W.fnOf "_law_word" "_law_word" (defArgs s_law_word) (defBody s_law_word) (defScope s_law_word) .none kV5 dc5 pm5 an5 cd5 ct5), sl5⟩) (c5 : PySem.W.codeIn K cd5 "_law_word" = true) (k5 : PySem.W.keepIn K (.ref f5) = true)
    (a6 : PySem.W.nsIn K mainGlobals "_law_steps" = some (some (.ref f6)))
    (l6 : K.lookup f6 = some ⟨oc6, od6, .func (PySem.W.fnOf "_law_steps" "_law_steps" (defArgs s_law_steps) (defBody s_law_steps) (defScope s_law_steps) .none kV6 dc6 pm6 an6 cd6 ct6), sl6⟩) (c6 : PySem.W.codeIn K cd6 "_law_steps" = true) (k6 : PySem.W.keepIn K (.ref f6) = true)
    (a7 : PySem.W.nsIn K mainGlobals "_law_data" = some (some (.ref f7)))
    (l7 : K.lookup f7 = some ⟨oc7, od7, .func (PySem.W.fnOf "_law_data" "_law_data" (defArgs s_law_data) (defBody s_law_data) (defScope s_law_data) .none kV7 dc7 pm7 an7 cd7 ct7), sl7⟩) (c7 : PySem.W.codeIn K cd7 "_law_data" = true) (k7 : PySem.W.keepIn K (.ref f7) = true)
    (a8 : PySem.W.nsIn K mainGlobals "_law_sum" = some (some (.ref f8)))
    (l8 : K.lookup f8 = some ⟨oc8, od8, .func (PySem.W.fnOf "_law_sum" "_law_sum" (defArgs s_law_sum) (defBody s_law_sum) (defScope s_law_sum) .none kV8 dc8 pm8 an8 cd8 ct8), sl8⟩) (c8 : PySem.W.codeIn K cd8 "_law_sum" = true) (k8 : PySem.W.keepIn K (.ref f8) = true)
    (a9 : PySem.W.nsIn K mainGlobals "_law_handed" = some (some (.ref f9)))
    (l9 : K.lookup f9 = some ⟨oc9, od9, .func (PySem.W.fnOf "_law_handed" "_law_handed" (defArgs s_law_handed) (defBody s_law_handed) (defScope s_law_handed) .none kV9 dc9 pm9 an9 cd9 ct9), sl9⟩) (c9 : PySem.W.codeIn K cd9 "_law_handed" = true) (k9 : PySem.W.keepIn K (.ref f9) = true)
    (a10 : PySem.W.nsIn K mainGlobals "numbers_of" = some (some (.ref f10)))
    (l10 : K.lookup f10 = some ⟨oc10, od10, .func (PySem.W.fnOf "numbers_of" "numbers_of" (defArgs s_numbers_of) (defBody s_numbers_of) (defScope s_numbers_of) .none kV10 dc10 pm10 an10 cd10 ct10), sl10⟩) (c10 : PySem.W.codeIn K cd10 "numbers_of" = true) (k10 : PySem.W.keepIn K (.ref f10) = true)
    (a11 : PySem.W.nsIn K mainGlobals "is_name" = some (some (.ref f11)))
    (l11 : K.lookup f11 = some ⟨oc11, od11, .func (PySem.W.fnOf "is_name" "is_name" (defArgs s_is_name) (defBody s_is_name) (defScope s_is_name) .none kV11 dc11 pm11 an11 cd11 ct11), sl11⟩) (c11 : PySem.W.codeIn K cd11 "is_name" = true) (k11 : PySem.W.keepIn K (.ref f11) = true)
    (a12 : PySem.W.nsIn K mainGlobals "require_name" = some (some (.ref f12)))
    (l12 : K.lookup f12 = some ⟨oc12, od12, .func (PySem.W.fnOf "require_name" "require_name" (defArgs s_require_name) (defBody s_require_name) (defScope s_require_name) .none kV12 dc12 pm12 an12 cd12 ct12), sl12⟩) (c12 : PySem.W.codeIn K cd12 "require_name" = true) (k12 : PySem.W.keepIn K (.ref f12) = true)
    (a13 : PySem.W.nsIn K mainGlobals "require_new_name" = some (some (.ref f13)))
    (l13 : K.lookup f13 = some ⟨oc13, od13, .func (PySem.W.fnOf "require_new_name" "require_new_name" (defArgs s_require_new_name) (defBody s_require_new_name) (defScope s_require_new_name) .none kV13 dc13 pm13 an13 cd13 ct13), sl13⟩) (c13 : PySem.W.codeIn K cd13 "require_new_name" = true) (k13 : PySem.W.keepIn K (.ref f13) = true)
    (a14 : PySem.W.nsIn K mainGlobals "checked_columns" = some (some (.ref f14)))
    (l14 : K.lookup f14 = some ⟨oc14, od14, .func (PySem.W.fnOf "checked_columns" "checked_columns" (defArgs s_checked_columns) (defBody s_checked_columns) (defScope s_checked_columns) .none kV14 dc14 pm14 an14 cd14 ct14), sl14⟩) (c14 : PySem.W.codeIn K cd14 "checked_columns" = true) (k14 : PySem.W.keepIn K (.ref f14) = true)
    (a15 : PySem.W.nsIn K mainGlobals "checked_rows" = some (some (.ref f15)))
    (l15 : K.lookup f15 = some ⟨oc15, od15, .func (PySem.W.fnOf "checked_rows" "checked_rows" (defArgs s_checked_rows) (defBody s_checked_rows) (defScope s_checked_rows) .none kV15 dc15 pm15 an15 cd15 ct15), sl15⟩) (c15 : PySem.W.codeIn K cd15 "checked_rows" = true) (k15 : PySem.W.keepIn K (.ref f15) = true)
    (a16 : PySem.W.nsIn K mainGlobals "checked_steps" = some (some (.ref f16)))
    (l16 : K.lookup f16 = some ⟨oc16, od16, .func (PySem.W.fnOf "checked_steps" "checked_steps" (defArgs s_checked_steps) (defBody s_checked_steps) (defScope s_checked_steps) .none kV16 dc16 pm16 an16 cd16 ct16), sl16⟩) (c16 : PySem.W.codeIn K cd16 "checked_steps" = true) (k16 : PySem.W.keepIn K (.ref f16) = true)
    (a17 : PySem.W.nsIn K mainGlobals "checked_kinds" = some (some (.ref f17)))
    (l17 : K.lookup f17 = some ⟨oc17, od17, .func (PySem.W.fnOf "checked_kinds" "checked_kinds" (defArgs s_checked_kinds) (defBody s_checked_kinds) (defScope s_checked_kinds) .none kV17 dc17 pm17 an17 cd17 ct17), sl17⟩) (c17 : PySem.W.codeIn K cd17 "checked_kinds" = true) (k17 : PySem.W.keepIn K (.ref f17) = true)
    (a18 : PySem.W.nsIn K mainGlobals "_law_plan" = some (some (.ref f18)))
    (l18 : K.lookup f18 = some ⟨oc18, od18, .func (PySem.W.fnOf "_law_plan" "_law_plan" (defArgs s_law_plan) (defBody s_law_plan) (defScope s_law_plan) .none kV18 dc18 pm18 an18 cd18 ct18), sl18⟩) (c18 : PySem.W.codeIn K cd18 "_law_plan" = true) (k18 : PySem.W.keepIn K (.ref f18) = true)
    (a19 : PySem.W.nsIn K mainGlobals "_law_shows" = some (some (.ref f19)))
    (l19 : K.lookup f19 = some ⟨oc19, od19, .func (PySem.W.fnOf "_law_shows" "_law_shows" (defArgs s_law_shows) (defBody s_law_shows) (defScope s_law_shows) .none kV19 dc19 pm19 an19 cd19 ct19), sl19⟩) (c19 : PySem.W.codeIn K cd19 "_law_shows" = true) (k19 : PySem.W.keepIn K (.ref f19) = true)
    (a20 : PySem.W.nsIn K mainGlobals "_law_said" = some (some (.ref f20)))
    (l20 : K.lookup f20 = some ⟨oc20, od20, .func (PySem.W.fnOf "_law_said" "_law_said" (defArgs s_law_said) (defBody s_law_said) (defScope s_law_said) .none kV20 dc20 pm20 an20 cd20 ct20), sl20⟩) (c20 : PySem.W.codeIn K cd20 "_law_said" = true) (k20 : PySem.W.keepIn K (.ref f20) = true)
    (a21 : PySem.W.nsIn K mainGlobals "_law_strange_columns" = some (some (.ref f21)))
    (l21 : K.lookup f21 = some ⟨oc21, od21, .func (PySem.W.fnOf "_law_strange_columns" "_law_strange_columns" (defArgs s_law_strange_columns) (defBody s_law_strange_columns) (defScope s_law_strange_columns) .none kV21 dc21 pm21 an21 cd21 ct21), sl21⟩) (c21 : PySem.W.codeIn K cd21 "_law_strange_columns" = true) (k21 : PySem.W.keepIn K (.ref f21) = true)
    (a22 : PySem.W.nsIn K mainGlobals "_law_spoiled" = some (some (.ref f22)))
    (l22 : K.lookup f22 = some ⟨oc22, od22, .func (PySem.W.fnOf "_law_spoiled" "_law_spoiled" (defArgs s_law_spoiled) (defBody s_law_spoiled) (defScope s_law_spoiled) .none kV22 dc22 pm22 an22 cd22 ct22), sl22⟩) (c22 : PySem.W.codeIn K cd22 "_law_spoiled" = true) (k22 : PySem.W.keepIn K (.ref f22) = true)
    (a23 : PySem.W.nsIn K mainGlobals "_law_right" = some (some (.ref f23)))
    (l23 : K.lookup f23 = some ⟨oc23, od23, .func (PySem.W.fnOf "_law_right" "_law_right" (defArgs s_law_right) (defBody s_law_right) (defScope s_law_right) .none kV23 dc23 pm23 an23 cd23 ct23), sl23⟩) (c23 : PySem.W.codeIn K cd23 "_law_right" = true) (k23 : PySem.W.keepIn K (.ref f23) = true)
    (a24 : PySem.W.nsIn K mainGlobals "law" = some (some (.ref f24)))
    (l24 : K.lookup f24 = some ⟨oc24, od24, .func (PySem.W.fnOf "law" "law" (defArgs s_law) (defBody s_law) (defScope s_law) .none kV24 dc24 pm24 an24 cd24 ct24), sl24⟩) (c24 : PySem.W.codeIn K cd24 "law" = true) (k24 : PySem.W.keepIn K (.ref f24) = true)
    (aC : PySem.W.nsIn K mainGlobals "Plan" = some (some (.ref C))) (pg : PySem.W.plainGet K C Str.empty = true) (hd : PySem.W.hasDictIn K C = true) (po : PySem.W.plainOver K C = true) (sa : PySem.W.findIn K (.ref C) "__setattr__" = some (some (.builtin "object.__setattr__"))) (mk : PySem.W.makesIn K C = true) (kc : PySem.W.keepIn K (.ref C) = true)
    (n1 : PySem.W.findIn K (.ref C) "_columns" = some none)
    (n2 : PySem.W.findIn K (.ref C) "_kinds" = some none)
    (n3 : PySem.W.findIn K (.ref C) "_checks" = some none)
    (a25 : PySem.W.findIn K (.ref C) "__init__" = some (some (.ref f25))) (i25 : PySem.W.isFn K (.ref f25) = true)
    (l25 : K.lookup f25 = some ⟨oc25, od25, .func (PySem.W.fnOf "__init__" "Plan.__init__" (defArgs s_Planinit) (defBody s_Planinit) (defScope s_Planinit) .none kV25 dc25 pm25 an25 cd25 ct25), sl25⟩) (c25 : PySem.W.codeIn K cd25 "Plan.__init__" = true) (k25 : PySem.W.keepIn K (.ref f25) = true)
    (a26 : PySem.W.findIn K (.ref C) "columns" = some (some (.ref p26))) (g26 : PySem.W.specialIn K (.ref p26) "__get__" = some (some (.builtin "property.__get__"))) (t26 : PySem.W.takesIn K (.ref p26) = some true) (r26 : PySem.W.recIn K p26 "property" = some (.ref f26 :: rest26))
    (l26 : K.lookup f26 = some ⟨oc26, od26, .func (PySem.W.fnOf "columns" "Plan.columns" (defArgs s_Plan_columns) (defBody s_Plan_columns) (defScope s_Plan_columns) .none kV26 dc26 pm26 an26 cd26 ct26), sl26⟩) (c26 : PySem.W.codeIn K cd26 "Plan.columns" = true) (k26 : PySem.W.keepIn K (.ref f26) = true)
    (a27 : PySem.W.findIn K (.ref C) "kinds" = some (some (.ref p27))) (g27 : PySem.W.specialIn K (.ref p27) "__get__" = some (some (.builtin "property.__get__"))) (t27 : PySem.W.takesIn K (.ref p27) = some true) (r27 : PySem.W.recIn K p27 "property" = some (.ref f27 :: rest27))
    (l27 : K.lookup f27 = some ⟨oc27, od27, .func (PySem.W.fnOf "kinds" "Plan.kinds" (defArgs s_Plan_kinds) (defBody s_Plan_kinds) (defScope s_Plan_kinds) .none kV27 dc27 pm27 an27 cd27 ct27), sl27⟩) (c27 : PySem.W.codeIn K cd27 "Plan.kinds" = true) (k27 : PySem.W.keepIn K (.ref f27) = true)
    (a28 : PySem.W.findIn K (.ref C) "checks" = some (some (.ref p28))) (g28 : PySem.W.specialIn K (.ref p28) "__get__" = some (some (.builtin "property.__get__"))) (t28 : PySem.W.takesIn K (.ref p28) = some true) (r28 : PySem.W.recIn K p28 "property" = some (.ref f28 :: rest28))
    (l28 : K.lookup f28 = some ⟨oc28, od28, .func (PySem.W.fnOf "checks" "Plan.checks" (defArgs s_Plan_checks) (defBody s_Plan_checks) (defScope s_Plan_checks) .none kV28 dc28 pm28 an28 cd28 ct28), sl28⟩) (c28 : PySem.W.codeIn K cd28 "Plan.checks" = true) (k28 : PySem.W.keepIn K (.ref f28) = true)
    (z1 : PySem.W.nsIn K mainGlobals "max" = some none)
    (z2 : PySem.W.nsIn K mainGlobals "min" = some none)
    (z3 : PySem.W.nsIn K mainGlobals "int" = some none)
    (z4 : PySem.W.nsIn K mainGlobals "len" = some none)
    (z5 : PySem.W.nsIn K mainGlobals "range" = some none)
    (z6 : PySem.W.nsIn K mainGlobals "list" = some none)
    (z7 : PySem.W.nsIn K mainGlobals "sorted" = some none)
    (z8 : PySem.W.nsIn K mainGlobals "all" = some none)
    (z9 : PySem.W.nsIn K mainGlobals "repr" = some none)
    (tE : PySem.W.typeIn K (.ref f29) = some (.type "function"))
    (l29 : K.lookup f29 = some ⟨oc29, od29, .func (PySem.W.fnOf "__init__" "PartError.__init__" (defArgs s_PartErrorinit) (defBody s_PartErrorinit) (defScope s_PartErrorinit) .none kV29 dc29 pm29 an29 cd29 ct29), sl29⟩) (c29 : PySem.W.codeIn K cd29 "PartError.__init__" = true) (k29 : PySem.W.keepIn K (.ref f29) = true)
    (eA1 : PySem.W.nsIn K mainGlobals "InvalidName" = some (some (.ref CE1)))
    (eL1 : K.lookup CE1 = some (excClassObj en1 eq1 CE1 eN1 ebs1 [.ref CE8, .type "ValueError", .type "Exception", .type "BaseException", .type "object"] true esn1 esu1 eab1 eco1 edd1 em1a em1b em1c em1d em1e "ValueError.__new__"))
    (eS1 : PySem.W.findIn K (.ref CE1) "__setattr__" = some (some (.builtin "object.__setattr__"))) (eG1 : PySem.W.findIn K (.ref CE1) "__getattribute__" = some (some (.builtin "BaseException.__getattribute__"))) (eH1 : PySem.W.findIn K (.ref CE1) "__getattr__" = some none)
    (eV1 : PySem.W.findIn K (.ref CE1) "value" = some none) (eI1 : PySem.W.findIn K (.ref CE1) "__init__" = some (some (.ref f29))) (eB1 : PySem.W.subIn K (.ref CE1) (.type "BaseException") = some true)
    (eT1 : PySem.W.typeIn K (.ref CE1) = some (.type "type")) (eD1 : PySem.W.hasDictIn K CE1 = true) (eK1 : PySem.W.keepIn K (.ref CE1) = true) (eQ1 : PySem.W.isClsIn K CE1 = true)
    (eA2 : PySem.W.nsIn K mainGlobals "DoubleName" = some (some (.ref CE2)))
    (eL2 : K.lookup CE2 = some (excClassObj en2 eq2 CE2 eN2 ebs2 [.ref CE8, .type "ValueError", .type "Exception", .type "BaseException", .type "object"] true esn2 esu2 eab2 eco2 edd2 em2a em2b em2c em2d em2e "ValueError.__new__"))
    (eS2 : PySem.W.findIn K (.ref CE2) "__setattr__" = some (some (.builtin "object.__setattr__"))) (eG2 : PySem.W.findIn K (.ref CE2) "__getattribute__" = some (some (.builtin "BaseException.__getattribute__"))) (eH2 : PySem.W.findIn K (.ref CE2) "__getattr__" = some none)
    (eV2 : PySem.W.findIn K (.ref CE2) "value" = some none) (eI2 : PySem.W.findIn K (.ref CE2) "__init__" = some (some (.ref f29))) (eB2 : PySem.W.subIn K (.ref CE2) (.type "BaseException") = some true)
    (eT2 : PySem.W.typeIn K (.ref CE2) = some (.type "type")) (eD2 : PySem.W.hasDictIn K CE2 = true) (eK2 : PySem.W.keepIn K (.ref CE2) = true) (eQ2 : PySem.W.isClsIn K CE2 = true)
    (eA3 : PySem.W.nsIn K mainGlobals "NoState" = some (some (.ref CE3)))
    (eL3 : K.lookup CE3 = some (excClassObj en3 eq3 CE3 eN3 ebs3 [.ref CE8, .type "ValueError", .type "Exception", .type "BaseException", .type "object"] true esn3 esu3 eab3 eco3 edd3 em3a em3b em3c em3d em3e "ValueError.__new__"))
    (eS3 : PySem.W.findIn K (.ref CE3) "__setattr__" = some (some (.builtin "object.__setattr__"))) (eG3 : PySem.W.findIn K (.ref CE3) "__getattribute__" = some (some (.builtin "BaseException.__getattribute__"))) (eH3 : PySem.W.findIn K (.ref CE3) "__getattr__" = some none)
    (eV3 : PySem.W.findIn K (.ref CE3) "value" = some none) (eI3 : PySem.W.findIn K (.ref CE3) "__init__" = some (some (.ref f29))) (eB3 : PySem.W.subIn K (.ref CE3) (.type "BaseException") = some true)
    (eT3 : PySem.W.typeIn K (.ref CE3) = some (.type "type")) (eD3 : PySem.W.hasDictIn K CE3 = true) (eK3 : PySem.W.keepIn K (.ref CE3) = true) (eQ3 : PySem.W.isClsIn K CE3 = true)
    (eA4 : PySem.W.nsIn K mainGlobals "UnknownColumn" = some (some (.ref CE4)))
    (eL4 : K.lookup CE4 = some (excClassObj en4 eq4 CE4 eN4 ebs4 [.ref CE8, .type "ValueError", .type "Exception", .type "BaseException", .type "object"] true esn4 esu4 eab4 eco4 edd4 em4a em4b em4c em4d em4e "ValueError.__new__"))
    (eS4 : PySem.W.findIn K (.ref CE4) "__setattr__" = some (some (.builtin "object.__setattr__"))) (eG4 : PySem.W.findIn K (.ref CE4) "__getattribute__" = some (some (.builtin "BaseException.__getattribute__"))) (eH4 : PySem.W.findIn K (.ref CE4) "__getattr__" = some none)
    (eV4 : PySem.W.findIn K (.ref CE4) "value" = some none) (eI4 : PySem.W.findIn K (.ref CE4) "__init__" = some (some (.ref f29))) (eB4 : PySem.W.subIn K (.ref CE4) (.type "BaseException") = some true)
    (eT4 : PySem.W.typeIn K (.ref CE4) = some (.type "type")) (eD4 : PySem.W.hasDictIn K CE4 = true) (eK4 : PySem.W.keepIn K (.ref CE4) = true) (eQ4 : PySem.W.isClsIn K CE4 = true)
    (eA5 : PySem.W.nsIn K mainGlobals "InvalidStart" = some (some (.ref CE5)))
    (eL5 : K.lookup CE5 = some (excClassObj en5 eq5 CE5 eN5 ebs5 [.ref CE8, .type "ValueError", .type "Exception", .type "BaseException", .type "object"] true esn5 esu5 eab5 eco5 edd5 em5a em5b em5c em5d em5e "ValueError.__new__"))
    (eS5 : PySem.W.findIn K (.ref CE5) "__setattr__" = some (some (.builtin "object.__setattr__"))) (eG5 : PySem.W.findIn K (.ref CE5) "__getattribute__" = some (some (.builtin "BaseException.__getattribute__"))) (eH5 : PySem.W.findIn K (.ref CE5) "__getattr__" = some none)
    (eV5 : PySem.W.findIn K (.ref CE5) "value" = some none) (eI5 : PySem.W.findIn K (.ref CE5) "__init__" = some (some (.ref f29))) (eB5 : PySem.W.subIn K (.ref CE5) (.type "BaseException") = some true)
    (eT5 : PySem.W.typeIn K (.ref CE5) = some (.type "type")) (eD5 : PySem.W.hasDictIn K CE5 = true) (eK5 : PySem.W.keepIn K (.ref CE5) = true) (eQ5 : PySem.W.isClsIn K CE5 = true)
    (eA6 : PySem.W.nsIn K mainGlobals "InvalidStep" = some (some (.ref CE6)))
    (eL6 : K.lookup CE6 = some (excClassObj en6 eq6 CE6 eN6 ebs6 [.ref CE8, .type "ValueError", .type "Exception", .type "BaseException", .type "object"] true esn6 esu6 eab6 eco6 edd6 em6a em6b em6c em6d em6e "ValueError.__new__"))
    (eS6 : PySem.W.findIn K (.ref CE6) "__setattr__" = some (some (.builtin "object.__setattr__"))) (eG6 : PySem.W.findIn K (.ref CE6) "__getattribute__" = some (some (.builtin "BaseException.__getattribute__"))) (eH6 : PySem.W.findIn K (.ref CE6) "__getattr__" = some none)
    (eV6 : PySem.W.findIn K (.ref CE6) "value" = some none) (eI6 : PySem.W.findIn K (.ref CE6) "__init__" = some (some (.ref f29))) (eB6 : PySem.W.subIn K (.ref CE6) (.type "BaseException") = some true)
    (eT6 : PySem.W.typeIn K (.ref CE6) = some (.type "type")) (eD6 : PySem.W.hasDictIn K CE6 = true) (eK6 : PySem.W.keepIn K (.ref CE6) = true) (eQ6 : PySem.W.isClsIn K CE6 = true)
    (eA7 : PySem.W.nsIn K mainGlobals "DoubleStep" = some (some (.ref CE7)))
    (eL7 : K.lookup CE7 = some (excClassObj en7 eq7 CE7 eN7 ebs7 [.ref CE8, .type "ValueError", .type "Exception", .type "BaseException", .type "object"] true esn7 esu7 eab7 eco7 edd7 em7a em7b em7c em7d em7e "ValueError.__new__"))
    (eS7 : PySem.W.findIn K (.ref CE7) "__setattr__" = some (some (.builtin "object.__setattr__"))) (eG7 : PySem.W.findIn K (.ref CE7) "__getattribute__" = some (some (.builtin "BaseException.__getattribute__"))) (eH7 : PySem.W.findIn K (.ref CE7) "__getattr__" = some none)
    (eV7 : PySem.W.findIn K (.ref CE7) "value" = some none) (eI7 : PySem.W.findIn K (.ref CE7) "__init__" = some (some (.ref f29))) (eB7 : PySem.W.subIn K (.ref CE7) (.type "BaseException") = some true)
    (eT7 : PySem.W.typeIn K (.ref CE7) = some (.type "type")) (eD7 : PySem.W.hasDictIn K CE7 = true) (eK7 : PySem.W.keepIn K (.ref CE7) = true) (eQ7 : PySem.W.isClsIn K CE7 = true)
    (eA8 : PySem.W.nsIn K mainGlobals "PartError" = some (some (.ref CE8)))
    (eL8 : K.lookup CE8 = some (excClassObj en8 eq8 CE8 eN8 ebs8 [.type "ValueError", .type "Exception", .type "BaseException", .type "object"] true esn8 esu8 eab8 eco8 edd8 em8a em8b em8c em8d em8e "ValueError.__new__"))
    (eS8 : PySem.W.findIn K (.ref CE8) "__setattr__" = some (some (.builtin "object.__setattr__"))) (eG8 : PySem.W.findIn K (.ref CE8) "__getattribute__" = some (some (.builtin "BaseException.__getattribute__"))) (eH8 : PySem.W.findIn K (.ref CE8) "__getattr__" = some none)
    (eV8 : PySem.W.findIn K (.ref CE8) "value" = some none) (eI8 : PySem.W.findIn K (.ref CE8) "__init__" = some (some (.ref f29))) (eB8 : PySem.W.subIn K (.ref CE8) (.type "BaseException") = some true)
    (eT8 : PySem.W.typeIn K (.ref CE8) = some (.type "type")) (eD8 : PySem.W.hasDictIn K CE8 = true) (eK8 : PySem.W.keepIn K (.ref CE8) = true) (eQ8 : PySem.W.isClsIn K CE8 = true)
    (eX1 : PySem.W.subIn K (.ref CE3) (.ref CE1) = some false)
    (eX2 : PySem.W.subIn K (.ref CE3) (.ref CE2) = some false)
    (eX3 : PySem.W.subIn K (.ref CE3) (.ref CE3) = some true)
    (eX4 : PySem.W.subIn K (.ref CE4) (.ref CE1) = some false)
    (eX5 : PySem.W.subIn K (.ref CE4) (.ref CE2) = some false)
    (eX6 : PySem.W.subIn K (.ref CE4) (.ref CE3) = some false)
    (eX7 : PySem.W.subIn K (.ref CE4) (.ref CE4) = some true)
    (eX8 : PySem.W.subIn K (.ref CE5) (.ref CE1) = some false)
    (eX9 : PySem.W.subIn K (.ref CE5) (.ref CE2) = some false)
    (eX10 : PySem.W.subIn K (.ref CE5) (.ref CE3) = some false)
    (eX11 : PySem.W.subIn K (.ref CE5) (.ref CE4) = some false)
    (eX12 : PySem.W.subIn K (.ref CE5) (.ref CE5) = some true)
    (g_0 : PySem.W.nsIn K mainGlobals "LETTERS" = some (some (.str "abcdefghijklmnopqrstuvwxyz" t_0)))
    (g_1 : PySem.W.nsIn K mainGlobals "MOST_LETTERS" = some (some (.int 8 t_1)))
    : FnG P w K mg base 10 "law" ["script"] (spLaw K) := by
  have F1 := fun_mk (st := s_law_well) l1 c1 k1
  have b1 := F1.binds (ps := ["cell", "k"]) fun _ _ _ _ _ _ us hl => match us, hl with | [_, _], _ => rfl
  have F2 := fun_mk (st := s_law_draw) l2 c2 k2
  have b2 := F2.binds (ps := ["well", "many"]) fun _ _ _ _ _ _ us hl => match us, hl with | [_, _], _ => rfl
  have F3 := fun_mk (st := s_law_number) l3 c3 k3
  have b3 := F3.binds (ps := ["well", "far"]) fun _ _ _ _ _ _ us hl => match us, hl with | [_, _], _ => rfl
  have F4 := fun_mk (st := s_law_counts) l4 c4 k4
  have b4 := F4.binds (ps := ["well", "many", "far"]) fun _ _ _ _ _ _ us hl => match us, hl with | [_, _, _], _ => rfl
  have F5 := fun_mk (st := s_law_word) l5 c5 k5
  have b5 := F5.binds (ps := ["well", "taken"]) fun _ _ _ _ _ _ us hl => match us, hl with | [_, _], _ => rfl
  have F6 := fun_mk (st := s_law_steps) l6 c6 k6
  have b6 := F6.binds (ps := ["well", "size", "words", "most"]) fun _ _ _ _ _ _ us hl => match us, hl with | [_, _, _, _], _ => rfl
  have F7 := fun_mk (st := s_law_data) l7 c7 k7
  have b7 := F7.binds (ps := ["well", "most", "far"]) fun _ _ _ _ _ _ us hl => match us, hl with | [_, _, _], _ => rfl
  have F8 := fun_mk (st := s_law_sum) l8 c8 k8
  have b8 := F8.binds (ps := ["well", "columns", "numbers"]) fun _ _ _ _ _ _ us hl => match us, hl with | [_, _, _], _ => rfl
  have F9 := fun_mk (st := s_law_handed) l9 c9 k9
  have b9 := F9.binds (ps := ["well", "data"]) fun _ _ _ _ _ _ us hl => match us, hl with | [_, _], _ => rfl
  have F10 := fun_mk (st := s_numbers_of) l10 c10 k10
  have b10 := F10.binds (ps := ["columns", "table"]) fun _ _ _ _ _ _ us hl => match us, hl with | [_, _], _ => rfl
  have F11 := fun_mk (st := s_is_name) l11 c11 k11
  have b11 := F11.binds (ps := ["text"]) fun _ _ _ _ _ _ us hl => match us, hl with | [_], _ => rfl
  have F12 := fun_mk (st := s_require_name) l12 c12 k12
  have b12 := F12.binds (ps := ["text"]) fun _ _ _ _ _ _ us hl => match us, hl with | [_], _ => rfl
  have F13 := fun_mk (st := s_require_new_name) l13 c13 k13
  have b13 := F13.binds (ps := ["text", "earlier"]) fun _ _ _ _ _ _ us hl => match us, hl with | [_, _], _ => rfl
  have F14 := fun_mk (st := s_checked_columns) l14 c14 k14
  have b14 := F14.binds (ps := ["columns"]) fun _ _ _ _ _ _ us hl => match us, hl with | [_], _ => rfl
  have F15 := fun_mk (st := s_checked_rows) l15 c15 k15
  have b15 := F15.binds (ps := ["columns", "kind", "states"]) fun _ _ _ _ _ _ us hl => match us, hl with | [_, _, _], _ => rfl
  have F16 := fun_mk (st := s_checked_steps) l16 c16 k16
  have b16 := F16.binds (ps := ["size", "steps"]) fun _ _ _ _ _ _ us hl => match us, hl with | [_, _], _ => rfl
  have F17 := fun_mk (st := s_checked_kinds) l17 c17 k17
  have b17 := F17.binds (ps := ["columns", "kinds"]) fun _ _ _ _ _ _ us hl => match us, hl with | [_, _], _ => rfl
  have F18 := fun_mk (st := s_law_plan) l18 c18 k18
  have b18 := F18.binds (ps := ["well", "data"]) fun _ _ _ _ _ _ us hl => match us, hl with | [_, _], _ => rfl
  have F19 := fun_mk (st := s_law_shows) l19 c19 k19
  have b19 := F19.binds (ps := ["plan", "data", "turn"]) fun _ _ _ _ _ _ us hl => match us, hl with | [_, _, _], _ => rfl
  have F20 := fun_mk (st := s_law_said) l20 c20 k20
  have b20 := F20.binds (ps := ["handed"]) fun _ _ _ _ _ _ us hl => match us, hl with | [_], _ => rfl
  have F21 := fun_mk (st := s_law_strange_columns) l21 c21 k21
  have b21 := F21.binds (ps := ["well", "columns"]) fun _ _ _ _ _ _ us hl => match us, hl with | [_, _], _ => rfl
  have F22 := fun_mk (st := s_law_spoiled) l22 c22 k22
  have b22 := F22.binds (ps := ["well", "handed"]) fun _ _ _ _ _ _ us hl => match us, hl with | [_, _], _ => rfl
  have F23 := fun_mk (st := s_law_right) l23 c23 k23
  have b23 := F23.binds (ps := ["well"]) fun _ _ _ _ _ _ us hl => match us, hl with | [_], _ => rfl
  have F24 := fun_mk (st := s_law) l24 c24 k24
  have b24 := F24.binds (ps := ["script"]) fun _ _ _ _ _ _ us hl => match us, hl with | [_], _ => rfl
  have F25 := fun_mk (st := s_Planinit) l25 c25 k25
  have b25 := F25.binds (ps := ["self", "columns", "kinds", "checks"]) fun _ _ _ _ _ _ us hl => match us, hl with | [_, _, _, _], _ => rfl
  have F26 := fun_mk (st := s_Plan_columns) l26 c26 k26
  have b26 := F26.binds (ps := ["self"]) fun _ _ _ _ _ _ us hl => match us, hl with | [_], _ => rfl
  have F27 := fun_mk (st := s_Plan_kinds) l27 c27 k27
  have b27 := F27.binds (ps := ["self"]) fun _ _ _ _ _ _ us hl => match us, hl with | [_], _ => rfl
  have F28 := fun_mk (st := s_Plan_checks) l28 c28 k28
  have b28 := F28.binds (ps := ["self"]) fun _ _ _ _ _ _ us hl => match us, hl with | [_], _ => rfl
  have F29 := fun_mk (st := s_PartErrorinit) l29 c29 k29
  have b29 := F29.binds (ps := ["self", "value"]) fun _ _ _ _ _ _ us hl => match us, hl with | [_, _], _ => rfl
  have T : Txt K mg := ⟨⟨f1, _, PySem.W.mg_of X G a1, F1, b1⟩, ⟨f2, _, PySem.W.mg_of X G a2, F2, b2⟩, ⟨f3, _, PySem.W.mg_of X G a3, F3, b3⟩, ⟨f4, _, PySem.W.mg_of X G a4, F4, b4⟩, ⟨f5, _, PySem.W.mg_of X G a5, F5, b5⟩, ⟨f6, _, PySem.W.mg_of X G a6, F6, b6⟩, ⟨f7, _, PySem.W.mg_of X G a7, F7, b7⟩, ⟨f8, _, PySem.W.mg_of X G a8, F8, b8⟩, ⟨f9, _, PySem.W.mg_of X G a9, F9, b9⟩, ⟨f10, _, PySem.W.mg_of X G a10, F10, b10⟩, ⟨f11, _, PySem.W.mg_of X G a11, F11, b11⟩, ⟨f12, _, PySem.W.mg_of X G a12, F12, b12⟩, ⟨f13, _, PySem.W.mg_of X G a13, F13, b13⟩, ⟨f14, _, PySem.W.mg_of X G a14, F14, b14⟩, ⟨f15, _, PySem.W.mg_of X G a15, F15, b15⟩, ⟨f16, _, PySem.W.mg_of X G a16, F16, b16⟩, ⟨f17, _, PySem.W.mg_of X G a17, F17, b17⟩, PySem.W.mg_none_of X G z1, PySem.W.mg_none_of X G z2, PySem.W.mg_none_of X G z3, PySem.W.mg_none_of X G z4, PySem.W.mg_none_of X G z5, PySem.W.mg_none_of X G z6, PySem.W.mg_none_of X G z7, PySem.W.mg_none_of X G z8, PySem.W.mg_none_of X G z9, ⟨t_0, PySem.W.mg_of X G g_0⟩, ⟨t_1, PySem.W.mg_of X G g_1⟩⟩
  have TT : Txt2 K mg := ⟨T, ⟨f18, _, PySem.W.mg_of X G a18, F18, b18⟩, ⟨f19, _, PySem.W.mg_of X G a19, F19, b19⟩, ⟨f20, _, PySem.W.mg_of X G a20, F20, b20⟩, ⟨f21, _, PySem.W.mg_of X G a21, F21, b21⟩, ⟨f22, _, PySem.W.mg_of X G a22, F22, b22⟩, ⟨f23, _, PySem.W.mg_of X G a23, F23, b23⟩, ⟨f24, _, PySem.W.mg_of X G a24, F24, b24⟩⟩
  have L : PlanT K mg C := ⟨⟨pg, hd, po, sa⟩, n1, n2, n3, PySem.W.mg_of X G aC, ⟨f25, _, ⟨mk, a25, i25, kc⟩, F25, b25⟩, ⟨p26, f26, _, ⟨a26, g26, t26, rest26, r26⟩, F26, b26⟩, ⟨p27, f27, _, ⟨a27, g27, t27, rest27, r27⟩, F27, b27⟩, ⟨p28, f28, _, ⟨a28, g28, t28, rest28, r28⟩, F28, b28⟩⟩
  have EE : Errs K mg ⟨CE1, CE2, CE3, CE4, CE5, CE6, CE7, CE8⟩ := ⟨⟨PySem.W.mg_of X G eA1, ⟨⟨en1, eq1, eN1, ebs1, _, esn1, esu1, eab1, eco1, edd1, em1a, em1b, em1c, em1d, em1e, eL1, rfl⟩, eS1, eB1, eT1, eK1⟩, ⟨eG1, eH1, eB1, eD1⟩, eV1, ⟨f29, _, eI1, tE, F29, b29⟩⟩, ⟨PySem.W.mg_of X G eA2, ⟨⟨en2, eq2, eN2, ebs2, _, esn2, esu2, eab2, eco2, edd2, em2a, em2b, em2c, em2d, em2e, eL2, rfl⟩, eS2, eB2, eT2, eK2⟩, ⟨eG2, eH2, eB2, eD2⟩, eV2, ⟨f29, _, eI2, tE, F29, b29⟩⟩, ⟨PySem.W.mg_of X G eA3, ⟨⟨en3, eq3, eN3, ebs3, _, esn3, esu3, eab3, eco3, edd3, em3a, em3b, em3c, em3d, em3e, eL3, rfl⟩, eS3, eB3, eT3, eK3⟩, ⟨eG3, eH3, eB3, eD3⟩, eV3, ⟨f29, _, eI3, tE, F29, b29⟩⟩, ⟨PySem.W.mg_of X G eA4, ⟨⟨en4, eq4, eN4, ebs4, _, esn4, esu4, eab4, eco4, edd4, em4a, em4b, em4c, em4d, em4e, eL4, rfl⟩, eS4, eB4, eT4, eK4⟩, ⟨eG4, eH4, eB4, eD4⟩, eV4, ⟨f29, _, eI4, tE, F29, b29⟩⟩, ⟨PySem.W.mg_of X G eA5, ⟨⟨en5, eq5, eN5, ebs5, _, esn5, esu5, eab5, eco5, edd5, em5a, em5b, em5c, em5d, em5e, eL5, rfl⟩, eS5, eB5, eT5, eK5⟩, ⟨eG5, eH5, eB5, eD5⟩, eV5, ⟨f29, _, eI5, tE, F29, b29⟩⟩, ⟨PySem.W.mg_of X G eA6, ⟨⟨en6, eq6, eN6, ebs6, _, esn6, esu6, eab6, eco6, edd6, em6a, em6b, em6c, em6d, em6e, eL6, rfl⟩, eS6, eB6, eT6, eK6⟩, ⟨eG6, eH6, eB6, eD6⟩, eV6, ⟨f29, _, eI6, tE, F29, b29⟩⟩, ⟨PySem.W.mg_of X G eA7, ⟨⟨en7, eq7, eN7, ebs7, _, esn7, esu7, eab7, eco7, edd7, em7a, em7b, em7c, em7d, em7e, eL7, rfl⟩, eS7, eB7, eT7, eK7⟩, ⟨eG7, eH7, eB7, eD7⟩, eV7, ⟨f29, _, eI7, tE, F29, b29⟩⟩, ⟨PySem.W.mg_of X G eA8, ⟨⟨en8, eq8, eN8, ebs8, _, esn8, esu8, eab8, eco8, edd8, em8a, em8b, em8c, em8d, em8e, eL8, rfl⟩, eS8, eB8, eT8, eK8⟩, ⟨eG8, eH8, eB8, eD8⟩, eV8, ⟨f29, _, eI8, tE, F29, b29⟩⟩, exm_of eB1 eQ1 eT1 eX1, exm_of eB2 eQ2 eT2 eX2, exm_of eB3 eQ3 eT3 eX3, exm_of eB1 eQ1 eT1 eX4, exm_of eB2 eQ2 eT2 eX5, exm_of eB3 eQ3 eT3 eX6, exm_of eB4 eQ4 eT4 eX7, exm_of eB1 eQ1 eT1 eX8, exm_of eB2 eQ2 eT2 eX9, exm_of eB3 eQ3 eT3 eX10, exm_of eB4 eQ4 eT4 eX11, exm_of eB5 eQ5 eT5 eX12⟩
  exact ok_law TT L EE hs
end Pz
open PySem PySem.W PyProof.Rows
set_option maxRecDepth 100000 in
set_option maxHeartbeats 0 in
theorem PySem.Challenge.cw_paidinparts_k03_states_let_and_refused_holds : PySem.Challenge.rw_paidinparts_k03_states_let_and_refused.Holds := by
  w_on; o_law; k_head; (case hw => w_witness2)
  k_fill
  refine Pz.walkG (l := PySem.Challenge.rw_paidinparts_k03_states_let_and_refused) (k := 10) (x := "script") (sp := Pz.spLaw) rfl rfl (by first | rfl | decide +kernel) ⟨rfl, by decide, by decide⟩ (fun w h Y => PySem.W.kIn_of Y) ?F (fun K H a ns Q hl hS hQ => ⟨a, ns, rfl, hl, hS, hQ⟩)
  case F =>
    intro w mg h KX G base b1 b2 b3
    refine' Pz.all_mk KX G b3 ?a1 ?l1 ?c1 ?k1 ?a2 ?l2 ?c2 ?k2 ?a3 ?l3 ?c3 ?k3 ?a4 ?l4 ?c4 ?k4 ?a5 ?l5 ?c5 ?k5 ?a6 ?l6 ?c6 ?k6 ?a7 ?l7 ?c7 ?k7 ?a8 ?l8 ?c8 ?k8 ?a9 ?l9 ?c9 ?k9 ?a10 ?l10 ?c10 ?k10 ?a11 ?l11 ?c11 ?k11 ?a12 ?l12 ?c12 ?k12 ?a13 ?l13 ?c13 ?k13 ?a14 ?l14 ?c14 ?k14 ?a15 ?l15 ?c15 ?k15 ?a16 ?l16 ?c16 ?k16 ?a17 ?l17 ?c17 ?k17 ?a18 ?l18 ?c18 ?k18 ?a19 ?l19 ?c19 ?k19 ?a20 ?l20 ?c20 ?k20 ?a21 ?l21 ?c21 ?k21 ?a22 ?l22 ?c22 ?k22 ?a23 ?l23 ?c23 ?k23 ?a24 ?l24 ?c24 ?k24 ?aC ?pg ?hd ?po ?sa ?mk ?kc ?n1 ?n2 ?n3 ?a25 ?i25 ?l25 ?c25 ?k25 ?a26 ?g26 ?t26 ?r26 ?l26 ?c26 ?k26 ?a27 ?g27 ?t27 ?r27 ?l27 ?c27 ?k27 ?a28 ?g28 ?t28 ?r28 ?l28 ?c28 ?k28 ?z1 ?z2 ?z3 ?z4 ?z5 ?z6 ?z7 ?z8 ?z9 ?tE ?l29 ?c29 ?k29 ?eA1 ?eL1 ?eS1 ?eG1 ?eH1 ?eV1 ?eI1 ?eB1 ?eT1 ?eD1 ?eK1 ?eQ1 ?eA2 ?eL2 ?eS2 ?eG2 ?eH2 ?eV2 ?eI2 ?eB2 ?eT2 ?eD2 ?eK2 ?eQ2 ?eA3 ?eL3 ?eS3 ?eG3 ?eH3 ?eV3 ?eI3 ?eB3 ?eT3 ?eD3 ?eK3 ?eQ3 ?eA4 ?eL4 ?eS4 ?eG4 ?eH4 ?eV4 ?eI4 ?eB4 ?eT4 ?eD4 ?eK4 ?eQ4 ?eA5 ?eL5 ?eS5 ?eG5 ?eH5 ?eV5 ?eI5 ?eB5 ?eT5 ?eD5 ?eK5 ?eQ5 ?eA6 ?eL6 ?eS6 ?eG6 ?eH6 ?eV6 ?eI6 ?eB6 ?eT6 ?eD6 ?eK6 ?eQ6 ?eA7 ?eL7 ?eS7 ?eG7 ?eH7 ?eV7 ?eI7 ?eB7 ?eT7 ?eD7 ?eK7 ?eQ7 ?eA8 ?eL8 ?eS8 ?eG8 ?eH8 ?eV8 ?eI8 ?eB8 ?eT8 ?eD8 ?eK8 ?eQ8 ?eX1 ?eX2 ?eX3 ?eX4 ?eX5 ?eX6 ?eX7 ?eX8 ?eX9 ?eX10 ?eX11 ?eX12 ?g_0 ?g_1
    (case a1 => k_is); (case l1 => k_is); (case c1 => k_is); (case k1 => k_is); (case a2 => k_is); (case l2 => k_is)
    (case c2 => k_is); (case k2 => k_is); (case a3 => k_is); (case l3 => k_is); (case c3 => k_is); (case k3 => k_is)
    (case a4 => k_is); (case l4 => k_is); (case c4 => k_is); (case k4 => k_is); (case a5 => k_is); (case l5 => k_is)
    (case c5 => k_is); (case k5 => k_is); (case a6 => k_is); (case l6 => k_is); (case c6 => k_is); (case k6 => k_is)
    (case a7 => k_is); (case l7 => k_is); (case c7 => k_is); (case k7 => k_is); (case a8 => k_is); (case l8 => k_is)
    (case c8 => k_is); (case k8 => k_is); (case a9 => k_is); (case l9 => k_is); (case c9 => k_is); (case k9 => k_is)
    (case a10 => k_is); (case l10 => k_is); (case c10 => k_is); (case k10 => k_is); (case a11 => k_is); (case l11 => k_is)
    (case c11 => k_is); (case k11 => k_is); (case a12 => k_is); (case l12 => k_is); (case c12 => k_is); (case k12 => k_is)
    (case a13 => k_is); (case l13 => k_is); (case c13 => k_is); (case k13 => k_is); (case a14 => k_is); (case l14 => k_is)
    (case c14 => k_is); (case k14 => k_is); (case a15 => k_is); (case l15 => k_is); (case c15 => k_is); (case k15 => k_is)
    (case a16 => k_is); (case l16 => k_is); (case c16 => k_is); (case k16 => k_is); (case a17 => k_is); (case l17 => k_is)
    (case c17 => k_is); (case k17 => k_is); (case a18 => k_is); (case l18 => k_is); (case c18 => k_is); (case k18 => k_is)
    (case a19 => k_is); (case l19 => k_is); (case c19 => k_is); (case k19 => k_is); (case a20 => k_is); (case l20 => k_is)
    (case c20 => k_is); (case k20 => k_is); (case a21 => k_is); (case l21 => k_is); (case c21 => k_is); (case k21 => k_is)
    (case a22 => k_is); (case l22 => k_is); (case c22 => k_is); (case k22 => k_is); (case a23 => k_is); (case l23 => k_is)
    (case c23 => k_is); (case k23 => k_is); (case a24 => k_is); (case l24 => k_is); (case c24 => k_is); (case k24 => k_is)
    (case aC => k_is); (case pg => k_is); (case hd => k_is); (case po => k_is); (case sa => k_is); (case mk => k_is)
    (case kc => k_is); (case n1 => k_is); (case n2 => k_is); (case n3 => k_is); (case a25 => k_is); (case i25 => k_is)
    (case l25 => k_is); (case c25 => k_is); (case k25 => k_is); (case a26 => k_is); (case g26 => k_is); (case t26 => k_is)
    (case r26 => k_is); (case l26 => k_is); (case c26 => k_is); (case k26 => k_is); (case a27 => k_is); (case g27 => k_is)
    (case t27 => k_is); (case r27 => k_is); (case l27 => k_is); (case c27 => k_is); (case k27 => k_is); (case a28 => k_is)
    (case g28 => k_is); (case t28 => k_is); (case r28 => k_is); (case l28 => k_is); (case c28 => k_is); (case k28 => k_is)
    (case z1 => k_is); (case z2 => k_is); (case z3 => k_is); (case z4 => k_is); (case z5 => k_is); (case z6 => k_is)
    (case z7 => k_is); (case z8 => k_is); (case z9 => k_is); (case eA1 => k_is); (case eL1 => k_is); (case eS1 => k_is)
    (case eG1 => k_is); (case eH1 => k_is); (case eV1 => k_is); (case eI1 => k_is); (case eB1 => k_is); (case eT1 => k_is)
    (case eD1 => k_is); (case eK1 => k_is); (case eQ1 => k_is); (case eA2 => k_is); (case eL2 => k_is); (case eS2 => k_is)
    (case eG2 => k_is); (case eH2 => k_is); (case eV2 => k_is); (case eI2 => k_is); (case eB2 => k_is); (case eT2 => k_is)
    (case eD2 => k_is); (case eK2 => k_is); (case eQ2 => k_is); (case eA3 => k_is); (case eL3 => k_is); (case eS3 => k_is)
    (case eG3 => k_is); (case eH3 => k_is); (case eV3 => k_is); (case eI3 => k_is); (case eB3 => k_is); (case eT3 => k_is)
    (case eD3 => k_is); (case eK3 => k_is); (case eQ3 => k_is); (case eA4 => k_is); (case eL4 => k_is); (case eS4 => k_is)
    (case eG4 => k_is); (case eH4 => k_is); (case eV4 => k_is); (case eI4 => k_is); (case eB4 => k_is); (case eT4 => k_is)
    (case eD4 => k_is); (case eK4 => k_is); (case eQ4 => k_is); (case eA5 => k_is); (case eL5 => k_is); (case eS5 => k_is)
    (case eG5 => k_is); (case eH5 => k_is); (case eV5 => k_is); (case eI5 => k_is); (case eB5 => k_is); (case eT5 => k_is)
    (case eD5 => k_is); (case eK5 => k_is); (case eQ5 => k_is); (case eA6 => k_is); (case eL6 => k_is); (case eS6 => k_is)
    (case eG6 => k_is); (case eH6 => k_is); (case eV6 => k_is); (case eI6 => k_is); (case eB6 => k_is); (case eT6 => k_is)
    (case eD6 => k_is); (case eK6 => k_is); (case eQ6 => k_is); (case eA7 => k_is); (case eL7 => k_is); (case eS7 => k_is)
    (case eG7 => k_is); (case eH7 => k_is); (case eV7 => k_is); (case eI7 => k_is); (case eB7 => k_is); (case eT7 => k_is)
    (case eD7 => k_is); (case eK7 => k_is); (case eQ7 => k_is); (case eA8 => k_is); (case eL8 => k_is); (case eS8 => k_is)
    (case eG8 => k_is); (case eH8 => k_is); (case eV8 => k_is); (case eI8 => k_is); (case eB8 => k_is); (case eT8 => k_is)
    (case eD8 => k_is); (case eK8 => k_is); (case eQ8 => k_is); (case eX1 => k_is); (case eX2 => k_is); (case eX3 => k_is)
    (case eX4 => k_is); (case eX5 => k_is); (case eX6 => k_is); (case eX7 => k_is); (case eX8 => k_is); (case eX9 => k_is)
    (case eX10 => k_is); (case eX11 => k_is); (case eX12 => k_is); (case g_0 => k_is); (case g_1 => k_is); (case tE => k_is)
    (case l29 => k_is); (case c29 => k_is); (case k29 => k_is)

