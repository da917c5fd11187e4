import PyProof.Rows.All
import Wide.All
import OpenK.AllK
import Wide.FinOn
import HandS.ForMost
import HandS.Wide
import HandS.Deep
import HandS.Property
import HandS.Style
import HandS.Finally
import HandS.More
import HandS.Walk
import HandS.Codes
import PyProof.ReprRoads
import PyProof.ReprBulk
import HandS.Ends
import KE.KDictZip
import HandS.Iter
import HandS.Zip
import HandS.IsInst
import HandS.ForExc
import HandS.ExcInit
import HandS.ExcField
import HandS.WordsExc
import HandS.Sort
import KE.KUnpackStar
import HandS.TryOnly
import PyProof.MakeMany
import PyProof.CompFree
import HandS.Comp
import HandS.Exc
import HandS.DictComp
import KE.GoesZip
import KE.GoesMore
import HandS.Defaults
import PySem.Challenge.RW_paidinparts_k39_payments
set_option Elab.async false
set_option linter.all false
set_option maxRecDepth 100000
set_option maxHeartbeats 4000000
/-! The base of all our proofs: data over the abstract heap, repr, defs that ask repr, frames. -/
namespace Pz
open PySem L2
open PyProof.Rows (envOfC)
/-! ### powers of great ints -/
section
variable {X : Cx}
def CPw (i j : Int) : Prop := 0 ≤ j ∧ (Builtin.Int.intBits i : Int) * j ≤ 2 ^ 27
theorem op_powW : OpR X (binaryOp .Pow) (rI CPw fun i j => .int (i ^ j.toNat)) :=
  opI fun _ _ _ _ _ _ _ hc q => PyProof.Rows.pow_int hc.1 hc.2 q
theorem cpw_of {i j : Int} {b : Nat} (h0 : 0 ≤ j) (hj : j ≤ 8) (hb : i.natAbs < 2 ^ b) (h : b ≤ 10000000) : CPw i j := by
  refine ⟨h0, ?_⟩
  have h1 := PyProof.Rows.intBits_le hb
  have h2 : (Builtin.Int.intBits i : Int) ≤ 10000000 := by omega
  have h3 : (Builtin.Int.intBits i : Int) * j ≤ 10000000 * 8 := by
    refine Int.le_trans (Int.mul_le_mul_of_nonneg_right h2 h0) ?_
    omega
  omega
theorem hu65 {A : Around} {k : Nat} (hr : Room k A) : A.units + 65 < cLine := by have := hr.un; omega
end

/-! ### data over a heap -/
def kD : Key → PyData
  | .inl i => .int i
  | .inr x => .str x
mutual
def R (F : Hp) : PyData → V → Prop
  | .none, v => v = .non
  | .bool b, v => v = .bl b
  | .int i, v => v = .int i
  | .str s, v => v = .str s
  | .list ds, v => ∃ a xs, v = .ref a ∧ F a = some (.lst xs) ∧ RA F ds xs
  | .tuple ds, v => ∃ a xs, v = .ref a ∧ F a = some (.tup xs) ∧ RA F ds xs
  | .dict kvs, v => ∃ a es, v = .ref a ∧ F a = some (.dK es) ∧ RK F kvs es
def RA (F : Hp) : List PyData → List V → Prop
  | [], xs => xs = []
  | d :: ds, xs => ∃ x r, xs = x :: r ∧ R F d x ∧ RA F ds r
def RK (F : Hp) : List (PyData × PyData) → List (Key × V) → Prop
  | [], es => es = []
  | (k, d) :: ds, es => ∃ kk x r, es = (kk, x) :: r ∧ k = kD kk ∧ R F d x ∧ RK F ds r
end
section
variable {F F' : Hp}
mutual
theorem R.mono (e : Same F F') : ∀ (d : PyData) (v : V), R F d v → R F' d v
  | .none, v, h => by simpa only [R] using h
  | .bool b, v, h => by simpa only [R] using h
  | .int i, v, h => by simpa only [R] using h
  | .str s, v, h => by simpa only [R] using h
  | .list ds, v, h => by
    simp only [R] at h ⊢
    obtain ⟨a, xs, rfl, h1, h2⟩ := h
    exact ⟨a, xs, rfl, e _ _ h1, RA.mono e ds xs h2⟩
  | .tuple ds, v, h => by
    simp only [R] at h ⊢
    obtain ⟨a, xs, rfl, h1, h2⟩ := h
    exact ⟨a, xs, rfl, e _ _ h1, RA.mono e ds xs h2⟩
  | .dict kvs, v, h => by
    simp only [R] at h ⊢
    obtain ⟨a, xs, rfl, h1, h2⟩ := h
    exact ⟨a, xs, rfl, e _ _ h1, RK.mono e kvs xs h2⟩
theorem RA.mono (e : Same F F') : ∀ (ds : List PyData) (vs : List V), RA F ds vs → RA F' ds vs
  | [], vs, h => by simpa only [RA] using h
  | d :: ds, vs, h => by
    simp only [RA] at h ⊢
    obtain ⟨x, r, rfl, h1, h2⟩ := h
    exact ⟨x, r, rfl, R.mono e d x h1, RA.mono e ds r h2⟩
theorem RK.mono (e : Same F F') : ∀ (ds : List (PyData × PyData)) (vs : List (Key × V)), RK F ds vs → RK F' ds vs
  | [], vs, h => by simpa only [RK] using h
  | (k, d) :: ds, vs, h => by
    simp only [RK] at h ⊢
    obtain ⟨kk, x, r, rfl, hk, h1, h2⟩ := h
    exact ⟨kk, x, r, rfl, hk, R.mono e d x h1, RK.mono e ds r h2⟩
end
/-! data without dicts, as the layer's own -/
mutual
theorem R.dp {K : PySem.W.Frag} : ∀ (d : PyData) (v : V), R F d v → d.hasDict = false → Dp K F v d
  | .none, v, h, _ => by simp only [R] at h; subst h; exact .non
  | .bool b, v, h, _ => by simp only [R] at h; subst h; exact .bl b
  | .int i, v, h, _ => by simp only [R] at h; subst h; exact .int i
  | .str s, v, h, _ => by simp only [R] at h; subst h; exact .str s
  | .list ds, v, h, n => by
    simp only [R] at h
    obtain ⟨a, xs, rfl, h1, h2⟩ := h
    exact .lst (SqL.of h1) (RA.dp ds xs h2 (by simpa only [PyData.hasDict] using n))
  | .tuple ds, v, h, n => by
    simp only [R] at h
    obtain ⟨a, xs, rfl, h1, h2⟩ := h
    exact .tup (SqT.of h1) (RA.dp ds xs h2 (by simpa only [PyData.hasDict] using n))
  | .dict kvs, v, h, n => by simp only [PyData.hasDict] at n; exact absurd n (by decide)
theorem RA.dp {K : PySem.W.Frag} : ∀ (ds : List PyData) (vs : List V), RA F ds vs → PyData.hasDictAll ds = false → DpAll K F vs ds
  | [], vs, h, _ => by simp only [RA] at h; subst h; exact .nil
  | d :: ds, vs, h, n => by
    simp only [RA] at h
    simp only [PyData.hasDictAll, Bool.or_eq_false_iff] at n
    obtain ⟨x, r, rfl, h1, h2⟩ := h
    exact .cons (R.dp d x h1 n.1) (RA.dp ds r h2 n.2)
end
theorem RA.len : ∀ {ds : List PyData} {vs : List V}, RA F ds vs → vs.length = ds.length
  | [], vs, h => by simp only [RA] at h; subst h; rfl
  | d :: ds, vs, h => by
    simp only [RA] at h
    obtain ⟨x, r, rfl, _, h2⟩ := h
    simp only [List.length_cons, RA.len h2]
theorem RA.at : ∀ {ds : List PyData} {vs : List V} {i : Nat} {d : PyData}, RA F ds vs → ds[i]? = some d → ∃ x, vs[i]? = some x ∧ R F d x
  | [], vs, i, d, h, e => by simp at e
  | d :: ds, vs, i, d', h, e => by
    simp only [RA] at h
    obtain ⟨x, r, rfl, h1, h2⟩ := h
    cases i with
    | zero => simp at e; subst e; exact ⟨x, rfl, h1⟩
    | succ i => simpa using RA.at (i := i) h2 (by simpa using e)
theorem RA.at' : ∀ {ds : List PyData} {vs : List V} {i : Nat} {x : V}, RA F ds vs → vs[i]? = some x → ∃ d, ds[i]? = some d ∧ R F d x := by
  intro ds vs i x h e
  have hl := RA.len h
  have hi : i < ds.length := by
    have := (List.getElem?_eq_some_iff.mp e).1
    omega
  obtain ⟨y, h1, h2⟩ := RA.at h (List.getElem?_eq_getElem hi)
  rw [e] at h1
  cases h1
  exact ⟨_, List.getElem?_eq_getElem hi, h2⟩
theorem RA.append : ∀ {ds es : List PyData} {xs ys : List V}, RA F ds xs → RA F es ys → RA F (ds ++ es) (xs ++ ys)
  | [], es, xs, ys, h, h' => by simp only [RA] at h; subst h; simpa using h'
  | d :: ds, es, xs, ys, h, h' => by
    simp only [RA] at h
    obtain ⟨x, r, rfl, h1, h2⟩ := h
    simp only [List.cons_append, RA]
    exact ⟨x, _, rfl, h1, RA.append h2 h'⟩
theorem RA.snoc {ds : List PyData} {d : PyData} {xs : List V} {x : V} (h : RA F ds xs) (h' : R F d x) : RA F (ds ++ [d]) (xs ++ [x]) :=
  RA.append h (by simp only [RA]; exact ⟨x, [], rfl, h', rfl⟩)
theorem RA.strs : ∀ (ss : List Str), RA F (ss.map .str) (ss.map V.str)
  | [] => by simp only [List.map_nil, RA]
  | s :: ss => by simp only [List.map_cons, RA, R]; exact ⟨_, _, rfl, rfl, RA.strs ss⟩
theorem RA.ints : ∀ (ns : List Int), RA F (ns.map .int) (ns.map V.int)
  | [] => by simp only [List.map_nil, RA]
  | s :: ss => by simp only [List.map_cons, RA, R]; exact ⟨_, _, rfl, rfl, RA.ints ss⟩
theorem RA.strs_eq : ∀ {ss : List Str} {xs : List V}, RA F (ss.map .str) xs → xs = ss.map V.str
  | [], xs, h => by simpa only [List.map_nil, RA] using h
  | s :: ss, xs, h => by
    simp only [List.map_cons, RA, R] at h
    obtain ⟨x, r, rfl, rfl, h2⟩ := h
    rw [List.map_cons, RA.strs_eq h2]
theorem RA.ints_eq : ∀ {ss : List Int} {xs : List V}, RA F (ss.map .int) xs → xs = ss.map V.int
  | [], xs, h => by simpa only [List.map_nil, RA] using h
  | s :: ss, xs, h => by
    simp only [List.map_cons, RA, R] at h
    obtain ⟨x, r, rfl, rfl, h2⟩ := h
    rw [List.map_cons, RA.ints_eq h2]
end

theorem RA_of {F : Hp} : ∀ {ds : List PyData} {vs : List V}, vs.length = ds.length → (∀ (i : Nat) d x, ds[i]? = some d → vs[i]? = some x → R F d x) → RA F ds vs
  | [], vs, hl, _ => by
    cases vs with
    | nil => simp only [RA]
    | cons x r => simp at hl
  | d :: ds, vs, hl, h => by
    cases vs with
    | nil => simp at hl
    | cons x r =>
      simp only [RA]
      exact ⟨x, r, rfl, h 0 d x rfl rfl, RA_of (by simpa using hl) fun i d' x' a b => h (i + 1) d' x' (by simpa using a) (by simpa using b)⟩

/-! ### repr -/
section
variable {X : Cx} {pins : List (Addr × Obj)} {σ : St} {H F : Hp} {s : Shared}
mutual
theorem R.reads (I : Inv X pins σ H s) (e : Same F H) : ∀ (d : PyData) (v : V) (u : Value), R F d v → RelV v u → ∃ as, Reads s.heap u d as ∧ ∀ a ∈ as, H a ≠ none
  | .none, v, u, h, r => by
    simp only [R] at h; subst h; cases r
    exact ⟨[], Reads.none, fun a m => nomatch m⟩
  | .bool b, v, u, h, r => by
    simp only [R] at h; subst h; cases r
    exact ⟨[], Reads.bool b, fun a m => nomatch m⟩
  | .int i, v, u, h, r => by
    simp only [R] at h; subst h; obtain ⟨t, rfl⟩ := r
    exact ⟨[], Reads.int i t, fun a m => nomatch m⟩
  | .str x, v, u, h, r => by
    simp only [R] at h; subst h; obtain ⟨t, rfl⟩ := r
    exact ⟨[], Reads.str x t, fun a m => nomatch m⟩
  | .list ds, v, u, h, r => by
    simp only [R] at h
    obtain ⟨a, xs, rfl, h1, h2⟩ := h
    cases r
    obtain ⟨its, rv, ⟨o, n, ho, hc, _, hd⟩, _⟩ := I.list (SqL.of (e _ _ h1))
    obtain ⟨as, hr, ha⟩ := RA.reads I e ds xs its h2 rv
    refine ⟨_, Reads.list ho hc hd hr, fun b hb => ?_⟩
    rcases List.mem_cons.mp hb with rfl | hb
    · rw [e _ _ h1]; exact fun q => nomatch q
    · exact ha b hb
  | .tuple ds, v, u, h, r => by
    simp only [R] at h
    obtain ⟨a, xs, rfl, h1, h2⟩ := h
    cases r
    obtain ⟨its, rv, ⟨o, ho, hc, n, hd⟩, _⟩ := I.tuple (SqT.of (e _ _ h1))
    obtain ⟨as, hr, ha⟩ := RA.reads I e ds xs its h2 rv
    exact ⟨_, Reads.tuple ho hc hd hr, ha⟩
  | .dict kvs, v, u, h, r => by
    simp only [R] at h
    obtain ⟨a, es, rfl, h1, h2⟩ := h
    cases r
    obtain ⟨_, _, vs, rel, o, des, ep, ho, hx, hd, hk, hp, hnd⟩ := dk_of I.hok (e _ _ h1)
    obtain ⟨as, bs, q1, q2, ha, hb⟩ := RK.reads I e kvs es vs des.toList h2 rel hp
    refine ⟨_, Reads.dict ho hx.1 hd q1 q2, fun b hm => ?_⟩
    rcases List.mem_append.mp hm with hm | hm
    · rcases List.mem_cons.mp hm with rfl | hm
      · rw [e _ _ h1]; exact fun q => nomatch q
      · exact ha b hm
    · exact hb b hm
theorem RA.reads (I : Inv X pins σ H s) (e : Same F H) : ∀ (ds : List PyData) (vs : List V) (us : List Value), RA F ds vs → Vals vs us → ∃ as, ReadsAll s.heap us ds as ∧ ∀ a ∈ as, H a ≠ none
  | [], vs, us, h, r => by
    simp only [RA] at h; subst h; cases r
    exact ⟨[], .nil, fun a m => nomatch m⟩
  | d :: ds, vs, us, h, r => by
    simp only [RA] at h
    obtain ⟨x, t, rfl, h1, h2⟩ := h
    cases r with
    | cons r1 r2 =>
      obtain ⟨as, q1, ha⟩ := R.reads I e d x _ h1 r1
      obtain ⟨bs, q2, hb⟩ := RA.reads I e ds t _ h2 r2
      refine ⟨_, .cons q1 q2, fun b hm => ?_⟩
      rcases List.mem_append.mp hm with hm | hm
      · exact ha b hm
      · exact hb b hm
theorem RK.reads (I : Inv X pins σ H s) (e : Same F H) : ∀ (ds : List (PyData × PyData)) (es : List (Key × V)) (vs : List (Key × Value)) (des : List DictEntry), RK F ds es → KV es vs → Pairs (mixKind X.prog X.w) des vs →
    ∃ as bs, ReadsAll s.heap (des.map (·.key)) (ds.map (·.1)) as ∧ ReadsAll s.heap (des.map (·.val)) (ds.map (·.2)) bs ∧ (∀ a ∈ as, H a ≠ none) ∧ ∀ a ∈ bs, H a ≠ none
  | [], es, vs, des, h, r, p => by
    simp only [RK] at h; subst h; cases r; cases p
    exact ⟨[], [], .nil, .nil, (fun a m => nomatch m), (fun a m => nomatch m)⟩
  | (k, d) :: ds, es, vs, des, h, r, p => by
    simp only [RK] at h
    obtain ⟨kk, x, t, rfl, rfl, h1, h2⟩ := h
    match vs, des, r, p with
    | (k2, w2) :: vs', de :: des', .cons r1 r2, .cons p0 pv pk =>
      obtain ⟨as, bs, q1, q2, ha, hb⟩ := RK.reads I e ds t _ _ h2 r2 pk
      obtain ⟨cs, q3, hc⟩ := R.reads I e d x w2 h1 r1.2
      have ek : kk = k2 := r1.1
      have hkey : Reads s.heap de.key (kD kk) [] := by
        rcases keyIs_shape (show keyIs k2 de.key = true from p0) with ⟨i, t, e1, e2⟩ | ⟨i, t, e1, e2⟩
        · rw [e2, ek, e1]; exact Reads.int i t
        · rw [e2, ek, e1]; exact Reads.str i t
      have ev : de.val = w2 := pv
      refine ⟨as, cs ++ bs, ?_, ?_, ha, fun b hm => ?_⟩
      · simpa using ReadsAll.cons hkey q1
      · rw [List.map_cons, List.map_cons, ev]
        exact ReadsAll.cons q3 q2
      · rcases List.mem_append.mp hm with hm | hm
        · exact hc b hm
        · exact hb b hm
end
end

/-- repr of data: d stands in F, a part of the heap -/
def rRepr : List V → Hp → VK → Prop := fun xs H Q => ∃ x d F, xs = [x] ∧ Same F H ∧ R F d x ∧ d.showable = true ∧ d.shown.length ≤ sizeLine ∧ d.depth ≤ 100 ∧ Q (.str d.shown) H
theorem cr_repr {X : Cx} {k : Nat} (hg : X.A.guards = some []) (hr : Room k X.A) (h1 : ∃ o, X.base.get? sysModules = some o) : CallR X (.builtin "repr") rRepr := by
  intro pins s σ H xs us Q I r h
  obtain ⟨x, d, F, rfl, hF, hR, hs, hz, hd, q⟩ := h
  obtain ⟨u, rfl, rx⟩ := Vals.one r
  have hsys : H sysModules = none := by
    obtain ⟨o, ho⟩ := h1
    exact (I.bs _ _ ho).2
  have hun := hr.un
  obtain ⟨as, hr1, ha⟩ := R.reads I hF d x u hR rx
  have kept : ∀ (h' : Heap) (t : Tok) (tk : Nat), (∀ b o, s.heap.get? b = some o → h'.get? b = some o) → EP X pins σ Q (.str d.shown t) { s with heap := h', toks := tk } :=
    fun h' t tk hk => ⟨.str d.shown, H, I.kept (t' := tk) hk, ⟨t, rfl⟩, q⟩
  have tok : ∀ (t : Tok) (tk : Nat), EP X pins σ Q (.str d.shown t) { s with toks := tk } :=
    fun t tk => ⟨.str d.shown, H, I.tok tk, ⟨t, rfl⟩, q⟩
  cases hr1 with
  | none => exact PySem.P.repr_of_none (by simpa only [PyData.shown_none] using tok _ _)
  | bool b => exact PySem.P.repr_of_bool (by simpa only [PyData.shown_bool] using tok _ _)
  | int i t =>
    refine PySem.P.repr_of_int ?_ (by simpa only [PyData.shown_int] using tok _ _)
    simpa only [PyData.showable, decide_eq_true_eq] using hs
  | str z t =>
    refine PySem.P.repr_of_str (by simpa only [PyData.shown_str] using tok _ _) ?_
    simpa only [PyData.shown_str] using hz
  | list q1 q2 q3 q4 =>
    exact repr_of_reads' (Reads.list q1 q2 q3 q4) hs (fun _ hm => ha _ hm hsys) hg (by omega) (fun b o e => e) (fun h' u tk hk => kept h' u tk hk) hz
  | tuple q1 q2 q3 q4 =>
    exact repr_of_reads' (Reads.tuple q1 q2 q3 q4) hs (fun _ hm => ha _ hm hsys) hg (by omega) (fun b o e => e) (fun h' u tk hk => kept h' u tk hk) hz
  | dict q1 q2 q3 q4 q5 =>
    exact repr_of_reads' (Reads.dict q1 q2 q3 q4 q5) hs (fun _ hm => ha _ hm hsys) hg (by omega) (fun b o e => e) (fun h' u tk hk => kept h' u tk hk) hz

/-! ### defs -/
section
variable {P : Program} {w : World} {K : PySem.W.Frag} {mg : Str → Option Value} {base : Heap}
/-- a def of the text's top, by its name -/
structure DefAt (K : PySem.W.Frag) (mg : Str → Option Value) (x : Str) (st : Stmt) (ps : List Str) : Prop where
  ex : ∃ f fd, mg x = some (.ref f) ∧ Fun K x x st f fd ∧ Binds K fd ps []
/-- its promise -/
structure Fn (P : Program) (w : World) (K : PySem.W.Frag) (mg : Str → Option Value) (base : Heap) (k : Nat) (x : Str) (ps : List Str) (sp : Sp) : Prop where
  ex : ∃ f fd, mg x = some (.ref f) ∧ PySem.W.keepIn K (.ref f) = true ∧ Binds K fd ps [] ∧ FnOk P w K mg base CX0 k f fd ps sp
theorem Fn.mono {j k : Nat} {x : Str} {ps : List Str} {sp : Sp} (F : Fn P w K mg base j x ps sp) (h : j ≤ k) : Fn P w K mg base k x ps sp := by
  obtain ⟨f, fd, a, b, c, d⟩ := F.ex
  exact ⟨f, fd, a, b, c, d.mono h⟩
theorem DefAt.fn {x : Str} {st : Stmt} {N ps : List Str} {k : Nat} {sp : Sp} (D : DefAt K mg x st ps) (S : FnScope N ps (defScope st)) (len : ∀ vs H Q E, sp vs H Q E → vs.length = ps.length)
    (hbody : ∀ (cdv : Value) (A : Around) (outer : List Env) (f : Addr) (s : Shared) (H : Hp) (vs : List V) (Q : VK) (E : XK), Room k (A.deeper (envOfC x (defScope st) s.heap.objs.size f cdv)) → sp vs H Q E →
      ∃ t, PSs (cxOf CX0 P w K mg base N x (defScope st) f cdv A outer s H E).nox (defBody st) t ∧ t { nx := fun _ H' => Q .non H', rt := Q } (start N vs) H) : Fn P w K mg base (k + 1) x ps sp := by
  obtain ⟨f, fd, hm, F, hb⟩ := D.ex
  exact ⟨f, fd, hm, F.kp, hb, F.ok S len fun cdv A outer s H vs Q E hr h => hbody cdv A outer f s H vs Q E hr h⟩
/-- f(e, ..) -/
theorem pe_fn {X : Cx} {k : Nat} {x : Str} {ps : List Str} {sp : Sp} {p pos : Pos} {e : Expr} {es : List Expr} {t : TA} (F : Fn X.prog X.w X.K X.mg X.base k x ps sp) (hr : Room k X.A) (hg : Gl X x)
    (ha : PA X (e :: es) t) (hdb : (x == ("__debug__" : Str)) = false := by decide) (he : starEach (e :: es) X.env = (false, eval e X.env) :: starEach es X.env := by rfl)
    (hpl : (backTo pos (starEach es X.env)).any (·.1) = false := by rfl) : PE X (.Call (.Name x p) (e :: es) [] pos) (tCall sp [] E0 t) := by
  obtain ⟨f, fd, a, b, c, d⟩ := F.ex
  exact pe_call d hr hg a b c .nil pass0 ha hdb he hpl

/-- a def that is called where no repr runs: what it may ask more -/
structure FnG (P : Program) (w : World) (K : PySem.W.Frag) (mg : Str → Option Value) (base : Heap) (k : Nat) (x : Str) (ps : List Str) (sp : Sp) : Prop where
  ex : ∃ f fd, mg x = some (.ref f) ∧ PySem.W.keepIn K (.ref f) = true ∧ Binds K fd ps [] ∧ (∀ vs H Q E, sp vs H Q E → vs.length = ps.length) ∧
    ∀ (A : Around) (outer : List Env) (s : Shared) (H : Hp) (args : Args) (us : List Value) (vs : List V) (Q : VK), A.guards = some [] → Room k A → Env0 P w K mg base A outer s H →
      BindsTo s fd args (ps.zip us) → Vals vs us → sp vs H Q E0 → codeAny (model P w) A (.call (.ref f) args) (CR CX0 outer P w H s Q E0) s
theorem Fn.g {k : Nat} {x : Str} {ps : List Str} {sp : Sp} (F : Fn P w K mg base k x ps sp) : FnG P w K mg base k x ps sp := by
  obtain ⟨f, fd, a, b, c, d⟩ := F.ex
  exact ⟨f, fd, a, b, c, d.len, fun A outer s H args us vs Q _ hr he hb hv hs => d.run A outer s H args us vs Q E0 hr he hb hv hs⟩
theorem FnG.mono {j k : Nat} {x : Str} {ps : List Str} {sp : Sp} (F : FnG P w K mg base j x ps sp) (h : j ≤ k) : FnG P w K mg base k x ps sp := by
  obtain ⟨f, fd, a, b, c, l, d⟩ := F.ex
  exact ⟨f, fd, a, b, c, l, fun A outer s H args us vs Q hg hr => d A outer s H args us vs Q hg (hr.mono h)⟩
theorem pe_fnG {X : Cx} {k : Nat} {x : Str} {ps : List Str} {sp : Sp} {p pos : Pos} {e : Expr} {es : List Expr} {t : TA} (F : FnG X.prog X.w X.K X.mg X.base k x ps sp) (hgd : X.A.guards = some []) (hr : Room k X.A) (hg : Gl X x)
    (ha : PA X (e :: es) t) (hdb : (x == ("__debug__" : Str)) = false := by decide) (he : starEach (e :: es) X.env = (false, eval e X.env) :: starEach es X.env := by rfl)
    (hpl : (backTo pos (starEach es X.env)).any (·.1) = false := by rfl) : PE X (.Call (.Name x p) (e :: es) [] pos) (tCall sp [] E0 t) := by
  obtain ⟨f, fd, hm, hk, hb, hl, run⟩ := F.ex
  constructor
  intro pins s σ H Q I h
  apply wpAny_Call_Name_kw
  apply ld_glob I hg hm _ hdb
  apply PySem.W.callWith_K (h₀ := X.base) I.ok.mod.kin hk _ he hpl
  refine thn (ha.run pos pins s σ H _ I h) ?_
  rintro us s1 ⟨vs, H1, I1, r, q⟩
  have q' : sp vs H1 Q E0 := by simpa using q
  have hlen : us.length = ps.length := by rw [← r.length]; exact hl _ _ _ _ q'
  refine ⟨I1.kIn, wpAny_call (codeAny_mono (run X.A X.stack s1 H1 ⟨us, []⟩ us vs Q hgd hr I1.env0 ?_ r q') ?_)⟩
  · have hb' := hb s1 us I1.kIn (by simpa using hlen)
    simpa using hb'
  · intro res s2 hq
    match res, hq with
    | .ok (.ret u), hq => exact I1.after hq
/-- its body -/
theorem DefAt.fnG {x : Str} {st : Stmt} {N ps : List Str} {k : Nat} {sp : Sp} (D : DefAt K mg x st ps) (S : FnScope N ps (defScope st)) (len : ∀ vs H Q E, sp vs H Q E → vs.length = ps.length)
    (hbody : ∀ (cdv : Value) (A : Around) (outer : List Env) (f : Addr) (s : Shared) (H : Hp) (vs : List V) (Q : VK), A.guards = some [] → Room k (A.deeper (envOfC x (defScope st) s.heap.objs.size f cdv)) → sp vs H Q E0 →
      ∃ t, PSs (cxOf CX0 P w K mg base N x (defScope st) f cdv A outer s H E0).nox (defBody st) t ∧ t { nx := fun _ H' => Q .non H', rt := Q } (start N vs) H) : FnG P w K mg base (k + 1) x ps sp := by
  obtain ⟨f, fd, hm, F, hb⟩ := D.ex
  refine ⟨f, fd, hm, F.kp, hb, len, ?_⟩
  intro A outer s H args us vs Q hgd hr e0 hbd rv hsp
  obtain ⟨oc, od, kV, doc, pm, an, cdv, ct, osl, rfl, lk, hcd⟩ := F.ex
  have hlen : vs.length = ps.length := len _ _ _ _ hsp
  have inK : K.In s.heap := e0.mod.kin.keeps fun b o q => (e0.bs b o q).1
  have nolim : s.heap.NoLimit := e0.mod.nolimit.keeps fun b o q => (e0.bs b o q).1
  have kinds : ∀ y ∈ ps.zip us, (defScope st).names.lookup y.1 = some .local ∨ ((defScope st).names.lookup y.1 = some .cell ∧ ((cellsFrom (s.heap.objs.size + 1) (defScope st).names []).lookup y.1).isSome = true) := by
    rintro ⟨n, v⟩ hy
    exact (S.par n (List.of_mem_zip hy).1).imp id fun q => ⟨q, PySem.W.cellsFrom_some _ _ _ (.inl q)⟩
  apply codeAny_call_function hr.depth (inK _ _ lk) rfl S.co S.gen rfl (PySem.W.codeRec_of inK hcd)
  apply hbd
  apply wpAny_newFunctionEnv_cells S.kind kinds
  rintro env rfl s1 ic
  refine ⟨nolim.keeps ic.toInCall.keep, codeAny_func ?_⟩
  obtain ⟨t, ht, hq⟩ := hbody cdv A outer f s H vs Q hgd (hr.deeper _) hsp
  have J := inv_start (CX := CX0) (E := E0) (qual := x) (f := f) (cd := cdv) (A := A) (outer := outer) S hr.hd e0 hlen rv ic
  refine wpAny_mono (ht.nox.run [] s1 (start N vs) H _ J hq) ?_ (fun e s' hs => hs)
  intro fl s' hs
  match fl, hs with
  | .ret u, hs =>
    obtain ⟨v, σ', H', J', rv', q⟩ := hs
    exact ⟨v, H', J'.os, J'.bare, J'.base, J'.hok, rv', q⟩
  | .next, hs =>
    obtain ⟨σ', H', J', q⟩ := hs
    exact ⟨.non, H', J'.os, J'.bare, J'.base, J'.hok, rfl, q⟩
  | .brk, hs =>
    obtain ⟨_, _, _, q⟩ := hs
    exact q.elim
  | .cont, hs =>
    obtain ⟨_, _, _, q⟩ := hs
    exact q.elim
end
end Pz

namespace Pz
open PySem L2
open PyProof.Rows (envOfC AllBare importsNone)
/-! ### the end of a law that asks repr -/
/-- the heap at the law's entry: the script alone is tracked, if it is no object of the module -/
def scriptHp (a : Addr) (vs : List Value) (ns : List Int) : Hp := fun b => if b = a then some (.frz { cls := .type "list", data := .seq vs.toArray } (.lst (ns.map V.int))) else none
theorem law_runG {P : Program} {w : World} {K : PySem.W.Frag} {mg mb : Str → Option Value} {k : Nat} {fa a : Addr} {x nm : Str} {sp : Sp} {s1 : Shared} {vs : List Value} {ns : List Int}
    (inK : K.In s1.heap) (nsM : s1.heap.Ns mainGlobals mg) (nsB : s1.heap.Ns builtinsNs mb) (eqB : ∀ y : Str, y ≠ "__name__" → mb y = bootBuiltins y) (nolim : s1.heap.NoLimit) (sysm : ∃ mm, s1.heap.Ns sysModules mm)
    (nogen : s1.gens = #[]) (hobj : s1.heap.get? a = some { cls := .type "list", data := .seq vs.toArray }) (hints : PyProof.Rows.IntsAre vs ns) (hlen : ns.length ≤ sizeLine) (room : Room k callerA) (hname : mg nm = some (.ref fa))
    (F : ∀ base : Heap, K.In base → base.Ns mainGlobals mg → (∃ o, base.get? sysModules = some o) → FnG P w K mg base k nm [x] sp)
    (hsp : ∀ (H : Hp) (Q : VK), SqL K H a (ns.map V.int) → (∀ H', Q (.bl true) H') → sp [.ref a] H Q E0) :
    codeAny (model P w) callerA (.call (.ref fa) ⟨[.ref a], []⟩) (fun r s' => r = .ok (.ret (.bool true)) ∧ OldK s1.heap s'.heap ∧ s'.os = s1.os ∧ AllBare s'.gens) s1 := by
  have rv : Vals (ns.map V.int) vs := vals_ints hints
  have lv := hints.length
  have run : ∀ H : Hp, (∀ b, H b = none ∨ (b = a ∧ K.lookup a = none ∧ H b = some (.frz { cls := .type "list", data := .seq vs.toArray } (.lst (ns.map V.int))))) → SqL K H a (ns.map V.int) → HOk P w H s1.heap →
      codeAny (model P w) callerA (.call (.ref fa) ⟨[.ref a], []⟩) (fun r s' => r = .ok (.ret (.bool true)) ∧ OldK s1.heap s'.heap ∧ s'.os = s1.os ∧ AllBare s'.gens) s1 := by
    intro H hH hS hok
    have notA : ∀ {b : Addr} {ob : Obj} {es : Array DictEntry} {ep : Nat}, s1.heap.get? b = some ob → ob.data = .dict es ep → H b = none := by
      intro b ob es ep e1 e2
      rcases hH b with q | ⟨rfl, _, _⟩
      · exact q
      · rw [hobj] at e1
        cases e1
        exact nomatch e2
    have under : ∀ {b : Addr} {m : Str → Option Value}, s1.heap.Ns b m → (hidT s1.heap H).Ns b m := by
      rintro b m ⟨ob, es, ep, e1, e2, r⟩
      exact ⟨ob, es, ep, hidT_get e1 (notA e1 e2), e2, r⟩
    have inKb : K.In (hidT s1.heap H) := by
      intro b ob e1
      refine hidT_get (inK b ob e1) ?_
      rcases hH b with q | ⟨rfl, q, _⟩
      · exact q
      · rw [q] at e1
        cases e1
    have sysb : ∃ ob, (hidT s1.heap H).get? sysModules = some ob := by
      obtain ⟨mm, hm⟩ := sysm
      obtain ⟨ob, es, ep, e1, _⟩ := under hm
      exact ⟨ob, e1⟩
    have md : Mod K mg (hidT s1.heap H) := by
      obtain ⟨mc, c1, c2⟩ := nolim
      exact ⟨inKb, under nsM, ⟨mb, under nsB, eqB⟩, ⟨mc, under c1, c2⟩⟩
    have env : Env0 P w K mg (hidT s1.heap H) callerA [] s1 H :=
      ⟨rfl, md, fun b ob e1 => of_hidT e1, Nat.le_of_eq (hidT_size _ _), trivial, (fun b hb => nomatch hb), hok, .of_eq nogen⟩
    obtain ⟨f, fd, hm, _, hb, _, runF⟩ := (F _ inKb (under nsM) sysb).ex
    rw [hname] at hm
    cases hm
    have hbind : BindsTo s1 fd ⟨[.ref a], []⟩ ([x].zip [Value.ref a]) := by simpa using hb s1 [.ref a] inK rfl
    refine codeAny_mono (runF callerA [] s1 H ⟨[.ref a], []⟩ [.ref a] [.ref a] (fun v _ => v = .bl true) rfl room env hbind (.cons rfl .nil) (hsp H _ hS fun _ => rfl)) ?_
    intro r s2 hr
    match r, hr with
    | .ok (.ret u), hr =>
      obtain ⟨v, H2, e_os, e_bare, un, hok2, rel, q⟩ := hr
      have q' : v = V.bl true := q
      subst q'
      have eu : u = Value.bool true := rel
      subst eu
      refine ⟨rfl, OldK.of_keep ?_, e_os, e_bare⟩
      intro b ob e1
      rcases hH b with q | ⟨rfl, _, q⟩
      · exact un.keep b ob e1 q (fun z => nomatch z) (fun z => nomatch z)
      · have q2 := un.frzs _ _ _ q
        have r1 := (hok _ _ q).1
        have r2 := (hok2 _ _ q2).1
        rw [e1] at r1
        cases r1
        exact r2
    | .error e, hr =>
      have hr' : CX0 [] H s1 E0 e s2 := hr
      exact hr'.elim
  match hk : K.lookup a with
  | some ob =>
    have e1 := inK a ob hk
    rw [hobj] at e1
    cases e1
    refine run (fun _ => none) (fun b => .inl rfl) (.inr ⟨_, vs.toArray, _, hk, rfl, rfl, rfl, ?_, by simpa using rv⟩) (fun b u z => nomatch z)
    rw [List.size_toArray, lv]
    exact hlen
  | none =>
    refine run (scriptHp a vs ns) (fun b => ?_) (.inl (.inr ⟨_, if_pos rfl⟩)) (fun b u z => ?_)
    · by_cases hb : b = a
      · exact .inr ⟨hb, hk, if_pos hb⟩
      · exact .inl (if_neg hb)
    · by_cases hb : b = a
      · have z' := (if_pos hb).symm.trans z
        cases z'
        subst hb
        exact ⟨hobj, by rw [List.length_map]; exact hlen, vs, _, rv, hobj⟩
      · have z' := (if_neg hb).symm.trans z
        cases z'
/-- the goal that k_head leaves -/
theorem walkG {l : PySem.W.OpenLaw} {k : Nat} {q : Program} {loose : List Str} {XP : (Str → Option Value) → Heap → Prop} {YP : World → Heap → Prop} {d : DefRec} {K : Params → PySem.W.Frag} {sp : PySem.W.Frag → Sp} {x : Str}
    (hn : l.most = some 63) (hdf : d.params.defaults = []) (himp : importsNone q = true) (room : Room k callerA)
    (hY : ∀ (w : World) (h : Heap), YP w h → (K w.params).In h)
    (F : ∀ (w : World) (mg : Str → Option Value) (h : Heap), (K w.params).In h → h.Ns mainGlobals mg →
      ∀ base : Heap, (K w.params).In base → base.Ns mainGlobals mg → (∃ o, base.get? sysModules = some o) → FnG l.prog w (K w.params) mg base k d.name [x] (sp (K w.params)))
    (hsp : ∀ (K : PySem.W.Frag) (H : Hp) (a : Addr) (ns : List Int) (Q : VK), ns.length ≤ 63 → SqL K H a (ns.map V.int) → (∀ H', Q (.bl true) H') → sp K [.ref a] H Q E0) :
    PySem.W.WalkO q loose XP YP l.row.toRowW d [] (fun f vs => PySem.call f vs) := by
  refine Att.attach_call hn hdf ?_
  intro w s0 s1 mg mb fa o pm cd doc a vs ns G Y ho hd hcd hmg hobj hints hlen hg
  have inK := hY w _ Y
  exact law_runG (x := x) inK G.T.g G.T.b G.T.builtins G.T.nolimit (let ⟨mm, h1, _⟩ := (G.T.seer himp).mods; ⟨mm, h1⟩) hg hobj hints (Nat.le_trans hlen (by decide)) room hmg
    (fun base b1 b2 b3 => F w mg _ inK G.T.g base b1 b2 b3) (fun H Q hS hQ => hsp _ H a ns Q hlen hS hQ)
end Pz

namespace Pz
open PySem L2
/-! ### one address hidden -/
def hid (D : Addr) (H : Hp) : Hp := fun b => if b = D then none else H b
theorem hid_at {D : Addr} {H : Hp} : hid D H D = none := by unfold hid; rw [if_pos rfl]
theorem hid_ne {D b : Addr} {H : Hp} (h : b ≠ D) : hid D H b = H b := by unfold hid; rw [if_neg h]
theorem hid_sub {D : Addr} {H : Hp} : Same (hid D H) H := fun b o e => by
  by_cases h : b = D
  · subst h; rw [hid_at] at e; cases e
  · rw [hid_ne h] at e; exact e
theorem hid_mono {D : Addr} {H H' : Hp} (s : ∀ b o, b ≠ D → H b = some o → H' b = some o) : Same (hid D H) (hid D H') := fun b o e => by
  by_cases h : b = D
  · subst h; rw [hid_at] at e; cases e
  · rw [hid_ne h] at e ⊢; exact s b o h e
theorem hid_upd {D : Addr} {H : Hp} {o : HO} : hid D (upd H D o) = hid D H := by
  funext b
  by_cases h : b = D
  · subst h; rw [hid_at, hid_at]
  · rw [hid_ne h, hid_ne h, upd_ne h]
theorem to_hid {D : Addr} {F H : Hp} (s : Same F H) (h : F D = none) : Same F (hid D H) := fun b o e => by
  have n : b ≠ D := fun z => by rw [z, h] at e; cases e
  rw [hid_ne n]; exact s b o e
theorem same_new {F H : Hp} {p : Addr} {o : HO} (s : Same F H) (h : H p = none) : Same F (upd H p o) := fun b u e => by
  have n : b ≠ p := fun z => by
    have := s b u e
    rw [z, h] at this; cases this
  rw [upd_ne n]; exact s b u e

theorem same_upd {H : Hp} {p : Addr} {o : HO} (h : H p = none) : Same H (upd H p o) := fun b u e => by
  have hn : b ≠ p := fun z => by rw [z, h] at e; cases e
  rw [upd_ne hn]; exact e
theorem nodup_ix2 {α : Type} {l : List α} (h : l.Nodup) {i j : Nat} {x : α} (a : l[i]? = some x) (b : l[j]? = some x) : i = j := nd_ix h a b
/-! ### the rules that name the written part, for a comprehension's block -/
section
variable {X : Cx} {K : PySem.W.Frag}
theorem ix_listK (h : X.K = K := by rfl) : IxR X (rIxL K) := h ▸ ix_list
theorem ix_tupK (h : X.K = K := by rfl) : IxR X (rIxT K) := h ▸ ix_tup
theorem len_seqK (h : X.K = K := by rfl) : CallR X (.builtin "len") (fun xs H Q => ∃ p ys, xs = [.ref p] ∧ (SqL K H p ys ∨ SqT K H p ys) ∧ Q (.int ys.length) H) := h ▸ call_len_seq
theorem list_ofK (h : X.K = K := by rfl) : CallR X (.type "list") (fun xs H Q => ∃ p ys, xs = [.ref p] ∧ (SqL K H p ys ∨ SqT K H p ys) ∧ ∀ l, H l = none → Q (.ref l) (upd H l (.lst ys))) := h ▸ call_list_of
theorem sl_listK (h : X.K = K := by rfl) : SlR X (rSlL K) := h ▸ sl_list
theorem sl_tupK (h : X.K = K := by rfl) : SlR X (rSlT K) := h ▸ sl_tup
theorem in_seqK (h : X.K = K := by rfl) : OpR X (compareOp .In) (rIn K false) := h ▸ op_in_seq
theorem notIn_seqK (h : X.K = K := by rfl) : OpR X (compareOp .NotIn) (rIn K true) := h ▸ op_notIn_seq
theorem eqDK (hu : X.A.units + 64 < cLine) (h : X.K = K := by rfl) : OpR X (compareOp .Eq) (rEqD K) := h ▸ op_eqD hu
theorem neDK (hu : X.A.units + 64 < cLine) (h : X.K = K := by rfl) : OpR X (compareOp .NotEq) (rNeD K) := h ▸ op_neD hu
theorem pe_fldK {e : Expr} {ta : TE} {f : Str} {pos : Pos} (he : PE X e ta) (hb : attributeBase e f X.env (eval e X.env) = eval e X.env) (h : X.K = K := by rfl) : PE X (.Attribute e f pos) (tFld K ta f) := h ▸ pe_fld he hb
theorem pi_listK {tg l : Expr} {tl : TE} (hl : PE X l tl) (h : X.K = K := by rfl) : PI X tg l (iList K tl) := h ▸ pi_list hl
theorem pi_tupK {tg l : Expr} {tl : TE} (hl : PE X l tl) (h : X.K = K := by rfl) : PI X tg l (iTup K tl) := h ▸ pi_tup hl
theorem pg_tupK {es : List Expr} {k : Nat} {t : TGs} {n : Nat} {pos : Pos} (hc : X.calm = true) (hg : PGs X es t)
    (hn : (assignEach es X.env).length = n := by rfl) (hst : (assignEach es X.env).findIdx? (·.1) = none := by rfl) (h : X.K = K := by rfl) : PG X (.Tuple es k pos) (gTup K n t) := h ▸ pg_tup hc hg hn hst
end
/-- a comprehension's block that captures nothing: whatever stands around it -/
theorem blk_closed {N : List Str} {sc0 sc scope : Scope} {own : List (Str × Nat)} (h : BlkOk N sc0 scope own) (hf : scope.names.all (fun y => decide (y.2 ≠ .free)) = true) : BlkOk N sc scope own :=
  ⟨h.kind, h.uniq, h.ix, fun y hy e => absurd e (of_decide_eq_true (List.all_eq_true.mp hf y hy)), h.own⟩
/-- an expression with a word behind it: what follows is shown once -/
def tMid (t : TE) : TE := fun σ H Q => ∃ Mid : V → Hp → Prop, t σ H Mid ∧ ∀ v H', Mid v H' → Q v H'
theorem pe_cut {X : Cx} {e : Expr} {t : TE} (h : PE X e t) : PE X e (tMid t) := by
  constructor
  intro pins s σ H Q I hq
  obtain ⟨Mid, h1, h2⟩ := hq
  exact thn (h.run pins s σ H Mid I h1) fun u s' ⟨v, H', I', r, q⟩ => ⟨v, H', I', r, h2 v H' q⟩
end Pz

namespace Pz
open PySem L2
/-! ### data without truth values and dicts: == is equality -/
mutual
def plain : PyData → Bool
  | .none => true
  | .bool _ => false
  | .int _ => true
  | .str s => PyData.strOk s
  | .list xs => plainAll xs
  | .tuple xs => plainAll xs
  | .dict _ => false
def plainAll : List PyData → Bool
  | [] => true
  | x :: xs => plain x && plainAll xs
end
theorem plainAll_of : ∀ {xs : List PyData}, (∀ x ∈ xs, plain x = true) → plainAll xs = true
  | [], _ => by simp only [plainAll]
  | x :: xs, h => by
    simp only [plainAll, Bool.and_eq_true]
    exact ⟨h x List.mem_cons_self, plainAll_of fun y hy => h y (List.mem_cons_of_mem _ hy)⟩
mutual
theorem eqv_iff : ∀ (d e : PyData), plain d = true → plain e = true → (PyData.eqv d e = true ↔ d = e)
  | .none, e, _, he => by cases e <;> simp [PyData.eqv, plain] at he ⊢
  | .bool b, e, hd, _ => by simp [plain] at hd
  | .int i, e, _, he => by cases e <;> simp [PyData.eqv, plain] at he ⊢
  | .str s, e, _, he => by cases e <;> simp [PyData.eqv, plain] at he ⊢
  | .list xs, e, hd, he => by
    cases e with
    | list ys =>
      simp only [plain] at hd he
      simp only [PyData.eqv, PyData.list.injEq]
      exact eqvAll_iff xs ys hd he
    | _ => simp [PyData.eqv, plain] at he ⊢
  | .tuple xs, e, hd, he => by
    cases e with
    | tuple ys =>
      simp only [plain] at hd he
      simp only [PyData.eqv, PyData.tuple.injEq]
      exact eqvAll_iff xs ys hd he
    | _ => simp [PyData.eqv, plain] at he ⊢
  | .dict kvs, e, hd, _ => by simp [plain] at hd
theorem eqvAll_iff : ∀ (xs ys : List PyData), plainAll xs = true → plainAll ys = true → (PyData.eqvAll xs ys = true ↔ xs = ys)
  | [], [], _, _ => by simp [PyData.eqvAll]
  | [], y :: ys, _, _ => by simp [PyData.eqvAll]
  | x :: xs, [], _, _ => by simp [PyData.eqvAll]
  | x :: xs, y :: ys, hx, hy => by
    simp only [plainAll, Bool.and_eq_true] at hx hy
    simp only [PyData.eqvAll, Bool.and_eq_true, List.cons.injEq]
    rw [eqv_iff x y hx.1 hy.1, eqvAll_iff xs ys hx.2 hy.2]
end
theorem eqv_eq {d e : PyData} (hd : plain d = true) (he : plain e = true) (h : d = e) : PyData.eqv d e = true := (eqv_iff d e hd he).mpr h
theorem eqv_ne {d e : PyData} (hd : plain d = true) (he : plain e = true) (h : d ≠ e) : PyData.eqv d e = false := by
  cases q : PyData.eqv d e with
  | false => rfl
  | true => exact absurd ((eqv_iff d e hd he).mp q) h
mutual
theorem plain_lay : ∀ d : PyData, plain d = true → d.canLay0 = true
  | .none, _ => by simp [PyData.canLay0]
  | .bool b, h => by simp [plain] at h
  | .int i, _ => by simp [PyData.canLay0]
  | .str s, h => by simpa only [PyData.canLay0, plain] using h
  | .list xs, h => by
    simp only [plain] at h
    simp only [PyData.canLay0]
    exact plainAll_lay xs h
  | .tuple xs, h => by
    simp only [plain] at h
    simp only [PyData.canLay0]
    exact plainAll_lay xs h
  | .dict _, h => by simp [plain] at h
theorem plainAll_lay : ∀ xs : List PyData, plainAll xs = true → PyData.canLayAll0 xs = true
  | [], _ => by simp [PyData.canLayAll0]
  | x :: xs, h => by
    simp only [plainAll, Bool.and_eq_true] at h
    simp only [PyData.canLayAll0, Bool.and_eq_true]
    exact ⟨plain_lay x h.1, plainAll_lay xs h.2⟩
end
theorem depthAll_le {n : Nat} : ∀ {xs : List PyData}, (∀ x ∈ xs, x.depth ≤ n) → PyData.depthAll xs ≤ n
  | [], _ => by simp [PyData.depthAll]
  | x :: xs, h => by
    have h1 := h x List.mem_cons_self
    have h2 := depthAll_le fun y hy => h y (List.mem_cons_of_mem _ hy)
    simp only [PyData.depthAll]
    omega
theorem shaped_of {d : PyData} (h : plain d = true) (hd : d.depth ≤ 64) : SeqAt.shaped d = true := by
  show (d.canLay0 && decide (d.depth ≤ 64)) = true
  rw [Bool.and_eq_true]
  exact ⟨plain_lay d h, decide_eq_true hd⟩
mutual
theorem plain_nodict : ∀ d : PyData, plain d = true → d.hasDict = false
  | .none, _ => by simp [PyData.hasDict]
  | .bool b, h => by simp [plain] at h
  | .int i, _ => by simp [PyData.hasDict]
  | .str s, _ => by simp [PyData.hasDict]
  | .list xs, h => by
    simp only [plain] at h
    simp only [PyData.hasDict]
    exact plainAll_nodict xs h
  | .tuple xs, h => by
    simp only [plain] at h
    simp only [PyData.hasDict]
    exact plainAll_nodict xs h
  | .dict _, h => by simp [plain] at h
theorem plainAll_nodict : ∀ xs : List PyData, plainAll xs = true → PyData.hasDictAll xs = false
  | [], _ => by simp [PyData.hasDictAll]
  | x :: xs, h => by
    simp only [plainAll, Bool.and_eq_true] at h
    simp only [PyData.hasDictAll, Bool.or_eq_false_iff]
    exact ⟨plain_nodict x h.1, plainAll_nodict xs h.2⟩
end
theorem R.dpp {K : PySem.W.Frag} {F H : Hp} {d : PyData} {v : V} (h : R F d v) (s : Same F H) (p : plain d = true) : Dp K H v d :=
  R.dp d v (R.mono s d v h) (plain_nodict d p)

/-! ### texts, sums, kinds as data -/
def dStrs (xs : List Str) : PyData := .list (xs.map .str)
def dInts (ns : List Int) : PyData := .list (ns.map .int)
def dRows (rows : List (List Int)) : PyData := .list (rows.map dInts)
def dStep (s : Str × Int × Int) : PyData := .tuple [.str s.1, .int s.2.1, .int s.2.2]
def dNS (s : Str × Int) : PyData := .tuple [.str s.1, .int s.2]
def eSum (tb : List (Str × Int)) : List (Key × V) := tb.map fun p => (Sum.inr p.1, V.int p.2)
def dSum (tb : List (Str × Int)) : PyData := .dict (tb.map fun p => (.str p.1, .int p.2))
def look (tb : List (Str × Int)) (c : Str) : Int := ((tb.find? fun p => decide (p.1 = c)).map (·.2)).getD 0
theorem valV_eSum (c : Str) : ∀ tb : List (Str × Int), (valV (eSum tb) (Sum.inr c)).getD (.int 0) = .int (look tb c)
  | [] => rfl
  | p :: tb => by
    have ih := valV_eSum c tb
    unfold look at ih ⊢
    by_cases h : p.1 = c
    · have e : valV (eSum (p :: tb)) (Sum.inr c) = some (.int p.2) := by
        show valV ((Sum.inr p.1, V.int p.2) :: eSum tb) (Sum.inr c) = _
        rw [valV_pos (by simp [h])]
      rw [e, List.find?_cons_of_pos (by simpa using h)]
      rfl
    · have e : valV (eSum (p :: tb)) (Sum.inr c) = valV (eSum tb) (Sum.inr c) := by
        show valV ((Sum.inr p.1, V.int p.2) :: eSum tb) (Sum.inr c) = _
        rw [valV_neg (by simpa using h)]
      rw [e, List.find?_cons_of_neg (by simpa using h)]
      exact ih
theorem RK_eSum {F : Hp} : ∀ (tb : List (Str × Int)) (es : List (Key × V)), RK F (tb.map fun p => (PyData.str p.1, PyData.int p.2)) es ↔ es = eSum tb
  | [], es => by simp [RK, eSum]
  | p :: tb, es => by
    simp only [List.map_cons, RK, R, eSum]
    constructor
    · rintro ⟨kk, x, r, rfl, hk, rfl, h2⟩
      cases kk with
      | inl i => exact nomatch hk
      | inr z =>
        cases hk
        rw [(RK_eSum tb r).mp h2]
        rfl
    · rintro rfl
      exact ⟨_, _, _, rfl, rfl, rfl, (RK_eSum tb _).mpr rfl⟩
theorem R_dSum {F : Hp} {tb : List (Str × Int)} {v : V} : R F (dSum tb) v ↔ ∃ a, v = .ref a ∧ F a = some (.dK (eSum tb)) := by
  unfold dSum
  simp only [R]
  constructor
  · rintro ⟨a, es, rfl, h, hk⟩
    rw [(RK_eSum tb es).mp hk] at h
    exact ⟨a, rfl, h⟩
  · rintro ⟨a, rfl, h⟩
    exact ⟨a, _, rfl, h, (RK_eSum tb _).mpr rfl⟩
theorem R_dInts {F : Hp} {ns : List Int} {v : V} : R F (dInts ns) v ↔ ∃ a, v = .ref a ∧ F a = some (.lst (ns.map V.int)) := by
  unfold dInts
  simp only [R]
  constructor
  · rintro ⟨a, xs, rfl, h, hk⟩
    rw [RA.ints_eq hk] at h
    exact ⟨a, rfl, h⟩
  · rintro ⟨a, rfl, h⟩
    exact ⟨a, _, rfl, h, RA.ints ns⟩
theorem R_dStrs {F : Hp} {ss : List Str} {v : V} : R F (dStrs ss) v ↔ ∃ a, v = .ref a ∧ F a = some (.lst (ss.map V.str)) := by
  unfold dStrs
  simp only [R]
  constructor
  · rintro ⟨a, xs, rfl, h, hk⟩
    rw [RA.strs_eq hk] at h
    exact ⟨a, rfl, h⟩
  · rintro ⟨a, rfl, h⟩
    exact ⟨a, _, rfl, h, RA.strs ss⟩
theorem R_dStep {F : Hp} {s : Str × Int × Int} {v : V} : R F (dStep s) v ↔ ∃ a, v = .ref a ∧ F a = some (.tup [.str s.1, .int s.2.1, .int s.2.2]) := by
  unfold dStep
  simp only [R, RA]
  constructor
  · rintro ⟨a, xs, rfl, h, x, r, rfl, rfl, x2, r2, rfl, rfl, x3, r3, rfl, rfl, rfl⟩
    exact ⟨a, rfl, h⟩
  · rintro ⟨a, rfl, h⟩
    exact ⟨a, _, rfl, h, _, _, rfl, rfl, _, _, rfl, rfl, _, _, rfl, rfl, rfl⟩
theorem R_dNS {F : Hp} {s : Str × Int} {v : V} : R F (dNS s) v ↔ ∃ a, v = .ref a ∧ F a = some (.tup [.str s.1, .int s.2]) := by
  unfold dNS
  simp only [R, RA]
  constructor
  · rintro ⟨a, xs, rfl, h, x, r, rfl, rfl, x2, r2, rfl, rfl, rfl⟩
    exact ⟨a, rfl, h⟩
  · rintro ⟨a, rfl, h⟩
    exact ⟨a, _, rfl, h, _, _, rfl, rfl, _, _, rfl, rfl, rfl⟩
theorem R_list {F : Hp} {ds : List PyData} {v : V} : R F (.list ds) v ↔ ∃ a xs, v = .ref a ∧ F a = some (.lst xs) ∧ RA F ds xs := by simp only [R]
theorem plain_dNS {s : Str × Int} (h : PyData.strOk s.1 = true) : plain (dNS s) = true := by simp [plain, plainAll, dNS, h]
theorem plain_dInts (ns : List Int) : plain (dInts ns) = true := by
  simp only [dInts, plain]
  exact plainAll_of fun x hx => by obtain ⟨i, _, rfl⟩ := List.mem_map.mp hx; simp [plain]
theorem depth_dInts (ns : List Int) : (dInts ns).depth ≤ 1 := by
  simp only [dInts, PyData.depth]
  have := depthAll_le (n := 0) (xs := ns.map PyData.int) fun x hx => by obtain ⟨i, _, rfl⟩ := List.mem_map.mp hx; simp [PyData.depth]
  omega
/-- the frozen part grows: what is new in it is new in the heap -/
structure Gr (F H F' H' : Hp) : Prop where
  le : Same F F'
  sub : Same F' H'
  new : ∀ b, F' b ≠ none → F b ≠ none ∨ H b = none
theorem Gr.trans {F H F1 H1 F2 H2 : Hp} (a : Gr F H F1 H1) (b : Gr F1 H1 F2 H2) (k : ∀ x, H1 x = none → H x = none) : Gr F H F2 H2 :=
  ⟨a.le.trans b.le, b.sub, fun x hx => (b.new x hx).elim (fun h => a.new x h) fun h => .inr (k x h)⟩
theorem Gr.one {F H H' : Hp} {p : Addr} {o : HO} (s : Same F H') (h : H p = none) (h' : H' p = some o) : Gr F H (upd F p o) H' := by
  refine ⟨?_, ?_, ?_⟩
  · intro b u e
    by_cases n : b = p
    · subst n
      have := s b u e
      rw [h'] at this
      cases this
      exact upd_same
    · rw [upd_ne n]; exact e
  · intro b u e
    by_cases n : b = p
    · subst n
      rw [upd_same] at e
      cases e
      exact h'
    · rw [upd_ne n] at e; exact s b u e
  · intro b hb
    by_cases n : b = p
    · subst n; exact .inr h
    · rw [upd_ne n] at hb; exact .inl hb
theorem same_none {H H' : Hp} (s : Same H H') {x : Addr} (h : H' x = none) : H x = none := Same.free s h
theorem Gr.refl {F H : Hp} (s : Same F H) : Gr F H F H := ⟨Same.refl F, s, fun b h => .inl h⟩
theorem Gr.base {F H H' : Hp} (s : Same F H) (e : Same H H') : Gr F H F H' := ⟨Same.refl F, s.trans e, fun b h => .inl h⟩
theorem Gr.step {F H F' H' H2 : Hp} (g : Gr F H F' H') (e : Same H' H2) : Gr F H F' H2 := ⟨g.le, g.sub.trans e, g.new⟩
theorem Gr.put {F H F' H' : Hp} {D : Addr} {o : HO} (g : Gr F H F' H') (h : F' D = none) : Gr F H F' (upd H' D o) :=
  ⟨g.le, fun b u e => by
    have n : b ≠ D := fun z => by rw [z, h] at e; cases e
    rw [upd_ne n]; exact g.sub b u e, g.new⟩
theorem Gr.snoc {F H F' H' : Hp} {D : Addr} {o : HO} (g : Gr F H F' H') (hD : H D = none) (h' : H' D = some o) : Gr F H (upd F' D o) H' := by
  have a := Gr.one (F := F') (H := H) g.sub hD h'
  exact ⟨g.le.trans a.le, a.sub, fun b hb => (a.new b hb).elim (fun h => g.new b h) .inr⟩
theorem Gr.out {F H F' H' : Hp} {D : Addr} (g : Gr F H F' H') (a : F D = none) (b : H D ≠ none) : F' D = none := by
  cases q : F' D with
  | none => rfl
  | some o => exact ((g.new D (by rw [q]; exact fun z => nomatch z)).elim (fun h => h a) b).elim

/-! ### comprehensions that make data -/
section
variable {K : PySem.W.Frag} {a D : Addr} {xs : List V} {g : TG} {te : TE} {vs : List Nat} {σ : St} {H F0 : Hp} {Qd : Hp → Prop}
/-- over a list; the heap only grows; F0 what is frozen ahead -/
theorem lc_data (ds : List PyData) (hl : ds.length = xs.length) (hz : xs.length ≤ 1000) (hs : SqL K H a xs) (hD : H D = none) (sF : Same F0 H)
    (step : ∀ (i : Nat) (x : V) (d : PyData) (F' H' : Hp) (Q' : VK), xs[i]? = some x → ds[i]? = some d → Same H H' → Gr F0 H F' H' → H' D ≠ none → F' D = none →
      (∀ y F4 H4, Same H' H4 → Gr F' H' F4 H4 → R F4 d y → Q' y H4) → g x (wipe σ vs) H' fun σ2 H2 => wipe σ2 vs = wipe σ vs ∧ te σ2 H2 Q')
    (hd : ∀ F' H' ys, Same H H' → Gr F0 H F' H' → F' D = none → RA F' ds ys → H' D = some (.lst ys) → Qd H') :
    ∃ W : Nat → Nat → Hp → Prop, (∃ m, W 0 m (upd H D (.lst []))) ∧ ∀ i m H, W i m H →
      ((Itl K a).stop i H ∧ Qd H) ∨ ((Itl K a).go i H ∧ ∃ Nx : Hp → Prop, (∀ H', Nx H' → ∃ m', m' < m ∧ W (i + 1) m' H') ∧ ∀ x H', (Itl K a).yld i H x H' → g x (wipe σ vs) H' fun σ2 H2 => wipe σ2 vs = wipe σ vs ∧ tYes σ2 H2 fun b H3 =>
        if b = true then te σ2 H3 fun y H4 => ∃ acc, H4 D = some (.lst acc) ∧ acc.length < sizeLine ∧ Nx (upd H4 D (.lst (acc ++ [y]))) else Nx H3) := by
  have f0D : F0 D = none := same_none sF hD
  refine lc_list (tt := tYes) (fun i H' => ∃ F' ys, Same H H' ∧ Gr F0 H F' H' ∧ F' D = none ∧ RA F' (ds.take i) ys ∧ H' D = some (.lst ys))
    ⟨F0, [], same_upd hD, (Gr.refl sF).put f0D, f0D, by simp [RA], upd_same⟩ (fun i H' _ ⟨F', ys, s1, _⟩ => s1.seq hs) (fun i x H' hx ⟨F', ys, s1, gr, fD, ra, hD'⟩ => ?_) (fun H' ⟨F', ys, s1, gr, fD, ra, hD'⟩ => ?_)
  · have hi := (List.getElem?_eq_some_iff.mp hx).1
    have hd' : ds[i]? = some (ds[i]'(by omega)) := List.getElem?_eq_getElem (by omega)
    have el := RA.len ra
    rw [List.length_take] at el
    have nD : H' D ≠ none := by rw [hD']; exact fun q => nomatch q
    exact step i x _ F' H' (fun y H4 => ∃ acc, H4 D = some (.lst acc) ∧ acc.length < sizeLine ∧ ∃ F' ys, Same H (upd H4 D (.lst (acc ++ [y]))) ∧ Gr F0 H F' (upd H4 D (.lst (acc ++ [y]))) ∧ F' D = none ∧ RA F' (ds.take (i + 1)) ys ∧ (upd H4 D (.lst (acc ++ [y]))) D = some (.lst ys)) hx hd' s1 gr nD fD (by
      rintro y F4 H4 s4 g4 hR
      have f4D := g4.out fD nD
      refine ⟨ys, s4 _ _ hD', small1000 (by omega), F4, ys ++ [y], ?_, (gr.trans g4 fun z hz => same_none s1 hz).put f4D, f4D, ?_, upd_same⟩
      · exact fun b o e => by
          rw [upd_ne (fun z => by rw [z, hD] at e; cases e)]
          exact s4 _ _ (s1 _ _ e)
      · rw [List.take_add_one, hd']
        exact RA.snoc (RA.mono g4.le _ _ ra) hR)
  · rw [List.take_of_length_le (by omega)] at ra
    exact hd F' H' ys s1 gr fD ra hD'
end
/-! ### comprehensions that make new lists, all apart -/
section
variable {K : PySem.W.Frag} {a D : Addr} {xs : List V} {g : TG} {te : TE} {vs : List Nat} {σ : St} {H : Hp} {Qd : Hp → Prop}
theorem lc_copy (css : List (List V)) (hl : css.length = xs.length) (hz : xs.length ≤ 1000) (hs : SqL K H a xs) (hD : H D = none)
    (step : ∀ (i : Nat) (x : V) (c : List V) (H' : Hp) (Q' : VK), xs[i]? = some x → css[i]? = some c → Same H H' → 
      (∀ p, H' p = none → Q' (.ref p) (upd H' p (.lst c))) → g x (wipe σ vs) H' fun σ2 H2 => wipe σ2 vs = wipe σ vs ∧ te σ2 H2 Q')
    (hd : ∀ H' rs, Same H H' → rs.length = css.length → H' D = some (.lst (rs.map V.ref)) → (D :: rs).Nodup → (∀ r ∈ rs, H r = none) → (∀ (i : Nat) r c, rs[i]? = some r → css[i]? = some c → H' r = some (.lst c)) → Qd H') :
    ∃ W : Nat → Nat → Hp → Prop, (∃ m, W 0 m (upd H D (.lst []))) ∧ ∀ i m H, W i m H →
      ((Itl K a).stop i H ∧ Qd H) ∨ ((Itl K a).go i H ∧ ∃ Nx : Hp → Prop, (∀ H', Nx H' → ∃ m', m' < m ∧ W (i + 1) m' H') ∧ ∀ x H', (Itl K a).yld i H x H' → g x (wipe σ vs) H' fun σ2 H2 => wipe σ2 vs = wipe σ vs ∧ tYes σ2 H2 fun b H3 =>
        if b = true then te σ2 H3 fun y H4 => ∃ acc, H4 D = some (.lst acc) ∧ acc.length < sizeLine ∧ Nx (upd H4 D (.lst (acc ++ [y]))) else Nx H3) := by
  refine lc_list (tt := tYes) (fun i H' => ∃ rs, Same H H' ∧ rs.length = i ∧ H' D = some (.lst (rs.map V.ref)) ∧ (D :: rs).Nodup ∧ (∀ r ∈ rs, H r = none) ∧ (∀ (j : Nat) r c, rs[j]? = some r → css[j]? = some c → H' r = some (.lst c)))
    ⟨[], same_upd hD, rfl, upd_same, by simp, (fun r h => nomatch h), (fun j r c h => by simp at h)⟩ (fun i H' _ ⟨rs, s1, _⟩ => s1.seq hs) ?_ ?_
  · rintro i x H' hx ⟨rs, s1, el, hD', nd, fr, ct⟩
    have hi := (List.getElem?_eq_some_iff.mp hx).1
    have hd' : css[i]? = some (css[i]'(by omega)) := List.getElem?_eq_getElem (by omega)
    generalize css[i]'(by omega) = c at hd'
    exact step i x c H' (fun y H4 => ∃ acc, H4 D = some (.lst acc) ∧ acc.length < sizeLine ∧ ∃ rs, Same H (upd H4 D (.lst (acc ++ [y]))) ∧ rs.length = i + 1 ∧ (upd H4 D (.lst (acc ++ [y]))) D = some (.lst (rs.map V.ref)) ∧ (D :: rs).Nodup ∧ (∀ r ∈ rs, H r = none) ∧
        (∀ (j : Nat) r c, rs[j]? = some r → css[j]? = some c → (upd H4 D (.lst (acc ++ [y]))) r = some (.lst c))) hx hd' s1 (by
      intro p hp
      have nDp : D ≠ p := fun z => by rw [z, hp] at hD'; cases hD'
      have hold : ∀ r ∈ rs, H' r ≠ none := fun r hr => by
        obtain ⟨j, hj, ej⟩ := List.mem_iff_getElem.mp hr
        have e1 : rs[j]? = some r := by rw [List.getElem?_eq_getElem hj, ej]
        have e2 : css[j]? = some (css[j]'(by omega)) := List.getElem?_eq_getElem (by omega)
        rw [ct j r _ e1 e2]; exact fun z => nomatch z
      have hpr : p ∉ rs := fun z => hold p z hp
      rw [List.nodup_cons] at nd
      refine ⟨_, by rw [upd_ne nDp]; exact hD', by rw [List.length_map]; exact small1000 (by omega), rs ++ [p], ?_, by simp [el], by rw [upd_same, List.map_append]; rfl, ?_, ?_, ?_⟩
      · exact fun b o e => by
          rw [upd_ne (fun z => by rw [z, hD] at e; cases e)]
          exact same_upd hp _ _ (s1 _ _ e)
      · rw [List.nodup_cons]
        refine ⟨?_, ?_⟩
        · intro z
          rcases List.mem_append.mp z with z | z
          · exact nd.1 z
          · exact nDp (List.mem_singleton.mp z)
        · rw [List.nodup_append]
          refine ⟨nd.2, by simp, ?_⟩
          intro r hr r2 hr2 e
          rw [List.mem_singleton.mp hr2] at e
          exact hpr (e ▸ hr)
      · intro r hr
        rcases List.mem_append.mp hr with hr | hr
        · exact fr r hr
        · rw [List.mem_singleton.mp hr]; exact same_none s1 hp
      · intro j r c2 e1 e2
        by_cases hj : j < rs.length
        · rw [List.getElem?_append_left hj] at e1
          have hr := List.mem_of_getElem? e1
          have nr : r ≠ D := fun z => nd.1 (z ▸ hr)
          have nrp : r ≠ p := fun z => hpr (z ▸ hr)
          rw [upd_ne nr, upd_ne nrp]
          exact ct j r c2 e1 e2
        · have ej : j = i := by
            have := (List.getElem?_eq_some_iff.mp e1).1
            simp at this
            omega
          subst ej
          rw [List.getElem?_append_right (by omega)] at e1
          have : j - rs.length = 0 := by omega
          rw [this] at e1
          have er : p = r := by simpa using e1
          subst er
          rw [hd'] at e2
          cases e2
          rw [upd_ne (Ne.symm nDp)]
          exact upd_same)
  · rintro H' ⟨rs, s1, el, hD', nd, fr, ct⟩
    exact hd H' rs s1 (by rw [hl]; exact el) hD' nd fr ct
end
/-- all that came anew -/
def grow (F H H' : Hp) : Hp := fun b => if H b = none then H' b else F b
theorem gr_grow {F H H' : Hp} (s : Same F H) (e : Same H H') : Gr F H (grow F H H') H' := by
  refine ⟨?_, ?_, ?_⟩
  · intro b o q
    unfold grow
    rw [if_neg (by rw [s _ _ q]; exact fun z => nomatch z)]
    exact q
  · intro b o q
    unfold grow at q
    by_cases h : H b = none
    · rw [if_pos h] at q; exact q
    · rw [if_neg h] at q; exact e _ _ (s _ _ q)
  · intro b q
    unfold grow at q
    by_cases h : H b = none
    · exact .inr h
    · rw [if_neg h] at q; exact .inl q
theorem grow_new {F H H' : Hp} {b : Addr} {o : HO} (h : H b = none) (h' : H' b = some o) : grow F H H' b = some o := by
  unfold grow; rw [if_pos h]; exact h'
end Pz

namespace Pz
open PySem L2
/-! ### how long the text of data is -/
structure Shw (m n : Nat) (d : PyData) : Prop where
  lv : d.leavesShort 16 = true
  sh : d.showable = true
  bk : d.bulk ≤ m
  dp : d.depth ≤ n
theorem Shw.mono {m n m' n' : Nat} {d : PyData} (h : Shw m n d) (a : m ≤ m') (b : n ≤ n') : Shw m' n' d := ⟨h.lv, h.sh, Nat.le_trans h.bk a, Nat.le_trans h.dp b⟩
theorem Shw.fits {m n : Nat} {d : PyData} (h : Shw m n d) (a : m ≤ 2 ^ 19) (b : n ≤ 100) : d.showable = true ∧ d.shown.length ≤ sizeLine ∧ d.depth ≤ 100 := by
  refine ⟨h.sh, ?_, Nat.le_trans h.dp b⟩
  have h1 := PyData.shown_le_bulk 16 (by decide) d h.lv
  have e : (2 : Nat) ^ 19 = 524288 := by decide
  have h2 : (16 + 2) * d.bulk ≤ 18 * 524288 := Nat.mul_le_mul (by omega) (by have := h.bk; omega)
  rw [sizeLine_eq]
  omega
theorem shw_int {i : Int} (h : -(10 ^ 14) ≤ i ∧ i ≤ 10 ^ 14) : Shw 0 0 (.int i) := by
  have hn : i.natAbs < 10 ^ 15 := by
    have e1 : (10 : Int) ^ 14 = 100000000000000 := by decide
    have e2 : (10 : Nat) ^ 15 = 1000000000000000 := by decide
    omega
  refine ⟨?_, ?_, Nat.le_refl _, Nat.le_refl _⟩
  · have e := int_text_length_le10 (k := 15) (by decide) hn
    simp only [PyData.leavesShort, decide_eq_true_eq]
    show (Str.ofString (toString i)).length ≤ 16
    rw [ofString_length]; exact e
  · simp only [PyData.showable, decide_eq_true_eq]
    by_cases z : i.natAbs = 0
    · rw [z]; decide
    · exact Nat.lt_of_lt_of_le ((Nat.log2_lt z).mpr (Nat.lt_of_lt_of_le hn (show 10 ^ 15 ≤ 2 ^ 60 by decide))) (by decide)
theorem shw_str {s : Str} {m : Nat} (h : PyData.strOk s = true) (l : s.length ≤ m) : Shw m 0 (.str s) := by
  refine ⟨PyData.leavesShort_of_canLay0 16 (.str s) (by simpa only [PyData.canLay0] using h) rfl, rfl, l, Nat.le_refl _⟩
theorem shwAll {m n : Nat} : ∀ {ds : List PyData}, (∀ d ∈ ds, Shw m n d) → PyData.leavesShortAll 16 ds = true ∧ PyData.showableAll ds = true ∧ PyData.bulkAll ds ≤ ds.length * (m + 1) ∧ PyData.depthAll ds ≤ n
  | [], _ => ⟨rfl, rfl, by simp [PyData.bulkAll], by simp [PyData.depthAll]⟩
  | d :: ds, h => by
    have h1 := h d List.mem_cons_self
    obtain ⟨a, b, c, e⟩ := shwAll (ds := ds) fun x hx => h x (List.mem_cons_of_mem _ hx)
    refine ⟨?_, ?_, ?_, ?_⟩
    · simp only [PyData.leavesShortAll, Bool.and_eq_true]; exact ⟨h1.lv, a⟩
    · simp only [PyData.showableAll, Bool.and_eq_true]; exact ⟨h1.sh, b⟩
    · simp only [PyData.bulkAll, List.length_cons, Nat.add_mul]
      have := h1.bk
      omega
    · simp only [PyData.depthAll]
      have := h1.dp
      omega
theorem shw_list {m n l : Nat} {ds : List PyData} (h : ∀ d ∈ ds, Shw m n d) (hl : ds.length ≤ l) : Shw (l * (m + 1)) (n + 1) (.list ds) := by
  obtain ⟨a, b, c, e⟩ := shwAll h
  exact ⟨a, b, Nat.le_trans c (Nat.mul_le_mul_right _ hl), by simp only [PyData.depth]; omega⟩
theorem shw_tup {m n l : Nat} {ds : List PyData} (h : ∀ d ∈ ds, Shw m n d) (hl : ds.length ≤ l) : Shw (l * (m + 1)) (n + 1) (.tuple ds) := by
  obtain ⟨a, b, c, e⟩ := shwAll h
  exact ⟨a, b, Nat.le_trans c (Nat.mul_le_mul_right _ hl), by simp only [PyData.depth]; omega⟩
theorem shw_kv {m n : Nat} : ∀ {ds : List (PyData × PyData)}, (∀ d ∈ ds, Shw m n d.1 ∧ Shw m n d.2) → PyData.leavesShortKv 16 ds = true ∧ PyData.showableKv ds = true ∧ PyData.bulkKv ds ≤ ds.length * (2 * m + 2) ∧ PyData.depthKv ds ≤ n
  | [], _ => ⟨rfl, rfl, by simp [PyData.bulkKv], by simp [PyData.depthKv]⟩
  | (x, y) :: ds, h => by
    obtain ⟨h1, h2⟩ := h (x, y) List.mem_cons_self
    obtain ⟨a, b, c, e⟩ := shw_kv (ds := ds) fun x hx => h x (List.mem_cons_of_mem _ hx)
    refine ⟨?_, ?_, ?_, ?_⟩
    · simp only [PyData.leavesShortKv, Bool.and_eq_true]; exact ⟨⟨h1.lv, h2.lv⟩, a⟩
    · simp only [PyData.showableKv, Bool.and_eq_true]; exact ⟨⟨h1.sh, h2.sh⟩, b⟩
    · simp only [PyData.bulkKv, List.length_cons, Nat.add_mul]
      have := h1.bk
      have := h2.bk
      simp only at *
      omega
    · simp only [PyData.depthKv]
      have := h1.dp
      have := h2.dp
      simp only at *
      omega
theorem shw_dict {m n l : Nat} {ds : List (PyData × PyData)} (h : ∀ d ∈ ds, Shw m n d.1 ∧ Shw m n d.2) (hl : ds.length ≤ l) : Shw (l * (2 * m + 2)) (n + 1) (.dict ds) := by
  obtain ⟨a, b, c, e⟩ := shw_kv h
  exact ⟨a, b, Nat.le_trans c (Nat.mul_le_mul_right _ hl), by simp only [PyData.depth]; omega⟩
theorem shw_ints {l : Nat} {ns : List Int} (h : ∀ x ∈ ns, -(10 ^ 14) ≤ x ∧ x ≤ 10 ^ 14) (hl : ns.length ≤ l) : Shw (l * (0 + 1)) 1 (dInts ns) :=
  shw_list (fun d hd => by obtain ⟨i, hi, rfl⟩ := List.mem_map.mp hd; exact shw_int (h i hi)) (by rw [List.length_map]; exact hl)
theorem shw_rows {l r : Nat} {rows : List (List Int)} (h : ∀ row ∈ rows, row.length ≤ l ∧ ∀ x ∈ row, -(10 ^ 14) ≤ x ∧ x ≤ 10 ^ 14) (hl : rows.length ≤ r) : Shw (r * (l * (0 + 1) + 1)) 2 (dRows rows) :=
  shw_list (fun d hd => by obtain ⟨i, hi, rfl⟩ := List.mem_map.mp hd; exact shw_ints (h i hi).2 (h i hi).1) (by rw [List.length_map]; exact hl)
end Pz

namespace Pz
open PySem PySem.Spec PyProof.Rows L2
/-! ### dict(zip(xs, ys)) of two lists -/
theorem kv_pairs : ∀ {kvs : List (Key × V)} {us vs : List Value}, Vals (kvs.map fun p => kV p.1) us → Vals (kvs.map fun p => p.2) vs →
    ∃ prs : List (Key × Value), KV kvs prs ∧ prs.length = kvs.length ∧ us.length = kvs.length ∧ vs.length = kvs.length ∧ ∀ (i : Nat) u v, us[i]? = some u → vs[i]? = some v → ∃ k, prs[i]? = some (k, v) ∧ RelV (kV k) u
  | [], us, vs, r, r2 => by
    cases r
    cases r2
    exact ⟨[], .nil, rfl, rfl, rfl, fun i u v e => by simp at e⟩
  | kv :: kvs, us, vs, r, r2 => by
    rw [List.map_cons] at r r2
    cases r with
    | cons h t =>
      cases r2 with
      | cons h2 t2 =>
        obtain ⟨prs, k1, k2, k3, k4, k5⟩ := kv_pairs t t2
        refine ⟨(kv.1, _) :: prs, .cons ⟨rfl, h2⟩ k1, by simp [k2], by simp [k3], by simp [k4], fun i u v e1 e2 => ?_⟩
        cases i with
        | zero =>
          have e1' := Option.some.inj e1
          have e2' := Option.some.inj e2
          subst e1'
          subst e2'
          exact ⟨kv.1, rfl, h⟩
        | succ i => exact k5 i u v (by simpa using e1) (by simpa using e2)
def tDictZip (K : PySem.W.Frag) (ta : TA) : TE := fun σ H Q => ta σ H fun vs H1 => ∃ (a b : Addr) (kvs : List (Key × V)), vs = [.ref a, .ref b] ∧ SqL K H1 a (kvs.map fun p => kV p.1) ∧ SqL K H1 b (kvs.map fun p => p.2) ∧
  ∀ p, H1 p = none → Q (.ref p) (upd H1 p (.dK (mergeK [] kvs)))
theorem pe_dictzip {X : Cx} {e e2 : Expr} {ta : TA} {p p0 pos pos0 : Pos} (hgd : Gl X "dict") (hmd : X.mg "dict" = none) (hgz : Gl X "zip") (hmz : X.mg "zip" = none) (hcalm : X.calm = true) (ha : PA X [e, e2] ta)
    (hs : starEach [e, e2] X.env = (false, eval e X.env) :: starEach [e2] X.env := by rfl) (hpl : (backTo pos (starEach [e2] X.env)).any (·.1) = false := by rfl)
    (hs0 : starEach [.Call (.Name "zip" p) [e, e2] [] pos] X.env = (false, eval (.Call (.Name "zip" p) [e, e2] [] pos) X.env) :: starEach [] X.env := by rfl) :
    PE X (.Call (.Name "dict" p0) [.Call (.Name "zip" p) [e, e2] [] pos] [] pos0) (tDictZip X.K ta) := by
  refine ⟨fun pins s σ H Q I h => ?_⟩
  refine Call_ (ld_blt I hgd hmd PyProof.Rows.boot_dict (PyProof.Rows.callWith_type1 ?_ hs0 rfl))
  rw [hs0]
  refine Calls.spliced_cons (Call_ (ld_blt I hgz hmz PyProof.Rows.boot_zip (PyProof.Rows.callWith_type1 (thn (ha.run pos pins s σ H _ I h) fun us s1 ⟨vs, H1, I1, r1, q1⟩ => ?_) hs hpl)))
  obtain ⟨a, b, kvs, ex, hqx, hqy, q⟩ := q1
  subst ex
  cases r1 with
  | cons r rr =>
    cases rr with
    | cons r' rr =>
      cases rr
      cases r
      cases r'
      obtain ⟨its, rv, p1, z1⟩ := I1.list hqx
      obtain ⟨its2, rv2, p2, z2⟩ := I1.list hqy
      refine call_zip_2 p1.isList p2.isList fun h' hz hTI hTO h1 h2 hsz hk => ?_
      refine Calls.spliced_nil ?_
      obtain ⟨prs, rel, pl, ul, vl, hpr⟩ := kv_pairs rv rv2
      have la : a < s1.heap.objs.size := p1.lt
      have lb : b < s1.heap.objs.size := p2.lt
      have hk5 : s1.heap.objs.size ≤ h'.objs.size := by rw [hsz]; exact Nat.le_add_right _ _
      refine call_dict_pairs (knd := mixKind X.prog X.w) (kvs := prs) (PairArg.zip (s1.heap.objs.size + 4) (s1.heap.objs.size + 2) (s1.heap.objs.size + 3) s1.heap.objs.size (s1.heap.objs.size + 1) a b (PySem.W.ktu_apart s1.heap.objs.size a b la lb) its.toArray its2.toArray)
        (I1.ok.hd hcalm) ⟨hz, hTI, ⟨_, _, hTO⟩, h1, h2, p1.isList.at fun o e => hk _ o e, p2.isList.at fun o e => hk _ o e⟩ ⟨?_, ?_⟩ ?_ fun h2 tk hd' k2 => ?_
      · rw [List.size_toArray, List.size_toArray, ul, vl, Nat.min_self, pl]
      · rintro i key v ⟨e1, e2⟩
        obtain ⟨k, e3, e4⟩ := hpr i key v (by simpa using e1) (by simpa using e2)
        exact ⟨k, e3, kV_is (P := X.prog) (w := X.w) e4⟩
      · rw [List.size_toArray, List.size_toArray, ul, vl, Nat.min_self]
        rw [List.length_map] at z1
        exact z1
      · have kk : ∀ c o, s1.heap.get? c = some o → h2.get? c = some o := fun c o e => by
          have lt : c < s1.heap.objs.size := Heap.lt_size e
          refine k2 c o (fun hm => ?_) (hk c o e)
          simp only [List.mem_cons, List.not_mem_nil, or_false] at hm
          rcases hm with z | z | z | z <;> · rw [z] at lt; exact absurd lt (by first | exact Nat.not_lt.mpr (Nat.le_add_right _ _) | exact Nat.lt_irrefl _)
        have hm : (h'.objs.size == sysModules) = false := beq_eq_false_iff_ne.mpr (Nat.ne_of_gt (Nat.lt_of_lt_of_le I1.big hk5))
        have hlen : (mergeK [] kvs).length ≤ sizeLine := by
          refine Nat.le_trans (length_mergeK kvs []) ?_
          rw [List.length_map] at z1
          rw [List.length_nil, Nat.zero_add]
          exact z1
        exact ⟨.ref h'.objs.size, upd H1 h'.objs.size (.dK (mergeK [] kvs)), I1.laid (t' := tk) kk hk5 (show ObjOk X.prog X.w _ _ _ (.dK (mergeK [] kvs)) from ⟨hlen, hm, merged [] prs, KV.merge rel .nil, hd'⟩), rfl, q _ (I1.hok.fresh hk5)⟩
/-! ### methods by their promise -/
structure Mth (P : Program) (w : World) (K : PySem.W.Frag) (mg : Str → Option Value) (base : Heap) (k : Nat) (C : Addr) (m : Str) (ps : List Str) (sp : Sp) : Prop where
  ex : ∃ f fd, Cls K C ∧ Meth K C m f ∧ Binds K fd ps [] ∧ FnOk P w K mg base CX0 k f fd ps sp
theorem pe_mth {X : Cx} {k : Nat} {C : Addr} {m : Str} {ps : List Str} {sp : Sp} {apos pos : Pos} {o e : Expr} {es : List Expr} {to : TE} {t : TA} {pl : Sem Bool} (F : Mth X.prog X.w X.K X.mg X.base k C m ps sp) (hr : Room k X.A) (he : PE X o to) (ha : PA X (e :: es) t)
    (hst : starEach (e :: es) X.env = (false, eval e X.env) :: starEach es X.env := by rfl) (hpl : (backTo pos (starEach es X.env)).any (·.1) = false := by rfl)
    (ht : eval (.Call (.Attribute o m apos) (e :: es) [] pos) X.env = (do
      let ov ← eval o X.env
      standAt apos.atName
      let (f, first) ← holding [ov] (getMethod ov m pl)
      callWith pos f first (backTo pos (starEach (e :: es) X.env)) (backToKw pos (keywordEach [] X.env))) := by rfl) :
    PE X (.Call (.Attribute o m apos) (e :: es) [] pos) (tMeth C m sp [] E0 to t) := by
  obtain ⟨f, fd, a, b, c, d⟩ := F.ex
  exact pe_meth he a b d hr c .nil pass0 ha hst hpl ht
theorem pe_mth0 {X : Cx} {k : Nat} {C : Addr} {m : Str} {ps : List Str} {sp : Sp} {apos pos : Pos} {o : Expr} {to : TE} {pl : Sem Bool} (F : Mth X.prog X.w X.K X.mg X.base k C m ps sp) (hr : Room k X.A) (he : PE X o to)
    (ht : eval (.Call (.Attribute o m apos) [] [] pos) X.env = (do
      let ov ← eval o X.env
      standAt apos.atName
      let (f, first) ← holding [ov] (getMethod ov m pl)
      callWith pos f first (backTo pos (starEach [] X.env)) (backToKw pos (keywordEach [] X.env))) := by rfl) :
    PE X (.Call (.Attribute o m apos) [] [] pos) (tMeth C m sp [] E0 to tNil) := by
  obtain ⟨f, fd, a, b, c, d⟩ := F.ex
  exact pe_meth0 he a b d hr c .nil pass0 ht
/-! ### what a dict with other keys each merges to -/
theorem eSum_snoc (tb : List (Str × Int)) (p : Str × Int) : eSum (tb ++ [p]) = eSum tb ++ [(Sum.inr p.1, V.int p.2)] := by simp [eSum]
theorem putK_end {kvs : List (Key × V)} {k : Key} {v : V} (h : ∀ p ∈ kvs, p.1 ≠ k) : putK kvs k v = kvs ++ [(k, v)] := by
  unfold putK
  rw [if_neg]
  simp only [List.any_eq_true, decide_eq_true_eq, not_exists, not_and]
  exact h
theorem merge_nd : ∀ (more kvs : List (Key × V)), ((kvs ++ more).map (·.1)).Nodup → mergeK kvs more = kvs ++ more
  | [], kvs, _ => by simp [mergeK]
  | p :: more, kvs, h => by
    have e : kvs ++ p :: more = (kvs ++ [p]) ++ more := by simp
    have hn : ∀ q ∈ kvs, q.1 ≠ p.1 := fun q hq z => by
      rw [List.map_append, List.nodup_append] at h
      exact h.2.2 q.1 (List.mem_map.mpr ⟨q, hq, rfl⟩) p.1 (by simp) z
    have ih := merge_nd more (kvs ++ [p]) (by rw [← e]; exact h)
    show mergeK (putK kvs p.1 p.2) more = _
    rw [putK_end hn, e]
    exact ih
/-- the scope of the comprehension that the i-th statement of a def's body is -/
def lcSc (st : Stmt) (i : Nat) : Scope := match (defBody st).getD i (.Pass ⟨0, 0, 0, 0⟩) with
  | .Return (some (.ListComp _ _ sc _)) _ => sc
  | .Assign _ (.ListComp _ _ sc _) _ => sc
  | _ => default
theorem look_relabel {env : Env} (x : Str) : ∀ names : List (Str × NameKind),
    (names.map fun (n, k) => if (k == NameKind.free && env.scope.kind == .function && env.kindOf n == some .cell) then (n, NameKind.cell) else (n, k)).lookup x =
      (names.lookup x).map fun k => if (k == NameKind.free && env.scope.kind == .function && env.kindOf x == some .cell) then NameKind.cell else k
  | [] => rfl
  | (n, k) :: r => by
    have ih := look_relabel (env := env) x r
    rw [List.map_cons]
    by_cases hx : x = n
    · subst hx
      by_cases hc : (k == NameKind.free && env.scope.kind == .function && env.kindOf x == some .cell) = true
      · simp only [hc, if_true, List.lookup_cons, beq_self_eq_true, Option.map_some]
      · rw [Bool.not_eq_true] at hc
        simp only [hc, List.lookup_cons, beq_self_eq_true, Option.map_some, Bool.false_eq_true, if_false]
    · have hb : (x == n) = false := beq_eq_false_iff_ne.mpr hx
      by_cases hc : (k == NameKind.free && env.scope.kind == .function && env.kindOf n == some .cell) = true
      · simp only [hc, if_true, List.lookup_cons, hb]
        exact ih
      · rw [Bool.not_eq_true] at hc
        simp only [hc, List.lookup_cons, hb, Bool.false_eq_true, if_false]
        exact ih
/-- a block within a block: what it takes from outside the outer one takes too -/
theorem blk_nest {N : List Str} {sc0 scope : Scope} {own : List (Str × Nat)} {cl : List (Str × Addr)} {C : Addr} {env : Env} (h : BlkOk N sc0 scope own) : BlkOk N (compEnvC sc0 cl C env).scope scope own := by
  refine ⟨h.kind, h.uniq, h.ix, fun y hy e => ?_, h.own⟩
  have e2 : (compEnvC sc0 cl C env).scope.names.lookup y.1 = _ := look_relabel (env := env) y.1 sc0.names
  rw [e2]
  rcases h.free y hy e with z | z
  · rw [z]; exact .inl rfl
  · rw [z, Option.map_some]
    by_cases hc : (NameKind.free == NameKind.free && env.scope.kind == .function && env.kindOf y.1 == some .cell) = true
    · rw [if_pos hc]; exact .inl rfl
    · rw [if_neg hc]; exact .inr rfl
theorem notInDK {X : Cx} {K : PySem.W.Frag} (hu : X.A.units + 65 < cLine) (h : X.K = K := by rfl) : OpR X (compareOp .NotIn) (rNotInD K) := h ▸ op_notInD hu
theorem inDK {X : Cx} {K : PySem.W.Frag} (hu : X.A.units + 65 < cLine) (h : X.K = K := by rfl) : OpR X (compareOp .In) (rInD K) := h ▸ op_inD hu
end Pz

namespace Pz
open PySem L2
/-! ### the text of data tells it apart -/
def small (c : Nat) : Bool := decide (97 ≤ c) && decide (c ≤ 122)
mutual
def okT : PyData → Bool
  | .int _ => true
  | .str s => s.cps.toList.all small
  | .list xs => okTs xs
  | .tuple xs => decide (2 ≤ xs.length) && okTs xs
  | .none => false
  | .bool _ => false
  | .dict _ => false
def okTs : List PyData → Bool
  | [] => true
  | x :: xs => okT x && okTs xs
end
def digs (i : Int) : List Nat := (PyData.shown (.int i)).cps.toList
mutual
def txt : PyData → List Nat
  | .int i => digs i
  | .str s => 39 :: (s.cps.toList ++ [39])
  | .list xs => 91 :: txts 93 xs
  | .tuple xs => 40 :: txts 41 xs
  | .none => []
  | .bool _ => []
  | .dict _ => []
def txts (c : Nat) : List PyData → List Nat
  | [] => [c]
  | x :: xs => txt x ++ txtr c xs
def txtr (c : Nat) : List PyData → List Nat
  | [] => [c]
  | x :: xs => 44 :: 32 :: (txt x ++ txtr c xs)
end
def isDig (c : Nat) : Bool := decide (c = 45) || (decide (48 ≤ c) && decide (c ≤ 57))
def delim (r : List Nat) : Prop := ∀ c, r.head? = some c → c = 44 ∨ c = 93 ∨ c = 41
theorem split_by (p : Nat → Bool) : ∀ {l l' r r' : List Nat}, (∀ c ∈ l, p c = true) → (∀ c ∈ l', p c = true) → (∀ c, r.head? = some c → p c = false) → (∀ c, r'.head? = some c → p c = false) → l ++ r = l' ++ r' → l = l' ∧ r = r'
  | [], [], r, r', _, _, _, _, h => ⟨rfl, h⟩
  | [], c :: l', r, r', _, h2, h3, _, h => by
    have e : r = c :: (l' ++ r') := h
    have := h3 c (by rw [e]; rfl)
    rw [h2 c List.mem_cons_self] at this
    cases this
  | c :: l, [], r, r', h1, _, _, h4, h => by
    have e : c :: (l ++ r) = r' := h
    have := h4 c (by rw [← e]; rfl)
    rw [h1 c List.mem_cons_self] at this
    cases this
  | c :: l, c' :: l', r, r', h1, h2, h3, h4, h => by
    injection h with e1 e2
    obtain ⟨a, b⟩ := split_by p (fun x hx => h1 x (List.mem_cons_of_mem _ hx)) (fun x hx => h2 x (List.mem_cons_of_mem _ hx)) h3 h4 e2
    exact ⟨by rw [e1, a], b⟩
/-- what is asked of the digits -/
structure DigOk : Prop where
  all : ∀ i, ∀ c ∈ digs i, isDig c = true
  ne : ∀ i, digs i ≠ []
  inj : ∀ i j, digs i = digs j → i = j
theorem txtr_delim {c : Nat} (hc : c = 93 ∨ c = 41) : ∀ (xs : List PyData) (r : List Nat), delim (txtr c xs ++ r)
  | [], r => fun x hx => by
    have : x = c := by simpa [txtr, eq_comm] using hx
    omega
  | y :: ys, r => fun x hx => by
    have : x = 44 := by simpa [txtr, eq_comm] using hx
    omega
theorem delim_dig {r : List Nat} (h : delim r) : ∀ c, r.head? = some c → isDig c = false := fun c hc => by
  rcases h c hc with z | z | z <;> (subst z; decide)
theorem str_inj {s t : Str} (h : s.cps.toList = t.cps.toList) : s = t := by
  cases s; cases t
  simp only at h
  congr 1
  exact Array.toList_inj.mp h
def kindOf : PyData → Nat
  | .int _ => 0
  | .str _ => 1
  | .list _ => 2
  | .tuple _ => 3
  | _ => 4
/-- how a text begins -/
theorem txt_head (g : DigOk) : ∀ d, okT d = true → ∃ c l, txt d = c :: l ∧ ((kindOf d = 0 ∧ isDig c = true) ∨ (kindOf d = 1 ∧ c = 39) ∨ (kindOf d = 2 ∧ c = 91) ∨ (kindOf d = 3 ∧ c = 40))
  | .int i, _ => by
    simp only [txt]
    cases e : digs i with
    | nil => exact absurd e (g.ne i)
    | cons c l => exact ⟨c, l, rfl, .inl ⟨rfl, g.all i c (by rw [e]; exact List.mem_cons_self)⟩⟩
  | .str s, _ => ⟨39, s.cps.toList ++ [39], by simp only [txt], .inr (.inl ⟨rfl, rfl⟩)⟩
  | .list xs, _ => ⟨91, txts 93 xs, by simp only [txt], .inr (.inr (.inl ⟨rfl, rfl⟩))⟩
  | .tuple xs, _ => ⟨40, txts 41 xs, by simp only [txt], .inr (.inr (.inr ⟨rfl, rfl⟩))⟩
  | .none, h => by simp [okT] at h
  | .bool _, h => by simp [okT] at h
  | .dict _, h => by simp [okT] at h
theorem same_kind (g : DigOk) {d d' : PyData} {r r' : List Nat} (h : okT d = true) (h' : okT d' = true) (e : txt d ++ r = txt d' ++ r') : kindOf d = kindOf d' := by
  obtain ⟨c, l, e1, k1⟩ := txt_head g d h
  obtain ⟨c', l', e2, k2⟩ := txt_head g d' h'
  rw [e1, e2] at e
  injection e with ec _
  subst ec
  rcases k1 with ⟨a, b⟩ | ⟨a, b⟩ | ⟨a, b⟩ | ⟨a, b⟩ <;> rcases k2 with ⟨a', b'⟩ | ⟨a', b'⟩ | ⟨a', b'⟩ | ⟨a', b'⟩ <;>
    first
      | exact a.trans a'.symm
      | (exfalso; subst b; revert b'; decide)
      | (exfalso; subst b'; revert b; decide)
theorem quote_end (r : List Nat) : ∀ c, (39 :: r).head? = some c → small c = false := fun c hc => by
  have : 39 = c := Option.some.inj hc
  subst this
  decide
theorem not_quote {l : List Nat} (h : l.all small = true) : ∀ c ∈ l, small c = true := fun c hc => List.all_eq_true.mp h c hc
mutual
theorem tells (g : DigOk) : ∀ (d d' : PyData) (r r' : List Nat), okT d = true → okT d' = true → delim r → delim r' → txt d ++ r = txt d' ++ r' → d = d' ∧ r = r'
  | .int i, d', r, r', h, h', hr, hr', e => by
    have k := same_kind g h h' e
    cases d' with
    | int j =>
      simp only [txt] at e
      obtain ⟨a, b⟩ := split_by isDig (g.all i) (g.all j) (delim_dig hr) (delim_dig hr') e
      exact ⟨by rw [g.inj i j a], b⟩
    | _ => simp [kindOf] at k
  | .str s, d', r, r', h, h', hr, hr', e => by
    have k := same_kind g h h' e
    cases d' with
    | str t =>
      simp only [txt, List.cons_append, List.append_assoc] at e
      injection e with _ e
      have h1 : s.cps.toList.all small = true := by simpa only [okT] using h
      have h2 : t.cps.toList.all small = true := by simpa only [okT] using h'
      obtain ⟨a, b⟩ := split_by small (not_quote h1) (not_quote h2) (quote_end _) (quote_end _) e
      refine ⟨by rw [str_inj a], ?_⟩
      simpa using b
    | _ => simp [kindOf] at k
  | .list xs, d', r, r', h, h', hr, hr', e => by
    have k := same_kind g h h' e
    cases d' with
    | list ys =>
      simp only [txt, List.cons_append] at e
      injection e with _ e
      obtain ⟨a, b⟩ := tellsS g 93 (.inl rfl) xs ys r r' (by simpa only [okT] using h) (by simpa only [okT] using h') e
      exact ⟨by rw [a], b⟩
    | _ => simp [kindOf] at k
  | .tuple xs, d', r, r', h, h', hr, hr', e => by
    have k := same_kind g h h' e
    cases d' with
    | tuple ys =>
      simp only [txt, List.cons_append] at e
      injection e with _ e
      simp only [okT, Bool.and_eq_true] at h h'
      obtain ⟨a, b⟩ := tellsS g 41 (.inr rfl) xs ys r r' h.2 h'.2 e
      exact ⟨by rw [a], b⟩
    | _ => simp [kindOf] at k
  | .none, _, _, _, h, _, _, _, _ => by simp [okT] at h
  | .bool _, _, _, _, h, _, _, _, _ => by simp [okT] at h
  | .dict _, _, _, _, h, _, _, _, _ => by simp [okT] at h
theorem tellsS (g : DigOk) (c : Nat) (hc : c = 93 ∨ c = 41) : ∀ (xs ys : List PyData) (r r' : List Nat), okTs xs = true → okTs ys = true → txts c xs ++ r = txts c ys ++ r' → xs = ys ∧ r = r'
  | [], [], r, r', _, _, e => by
    simp only [txts, List.cons_append, List.nil_append] at e
    injection e with _ e
    exact ⟨rfl, e⟩
  | [], y :: ys, r, r', _, h', e => by
    simp only [okTs, Bool.and_eq_true] at h'
    obtain ⟨c', l, e1, k⟩ := txt_head g y h'.1
    simp only [txts, List.cons_append, List.nil_append, List.append_assoc, e1] at e
    injection e with ec _
    exfalso
    subst ec
    rcases hc with rfl | rfl <;> rcases k with ⟨_, b⟩ | ⟨_, b⟩ | ⟨_, b⟩ | ⟨_, b⟩ <;> revert b <;> decide
  | x :: xs, [], r, r', h, _, e => by
    simp only [okTs, Bool.and_eq_true] at h
    obtain ⟨c', l, e1, k⟩ := txt_head g x h.1
    simp only [txts, List.cons_append, List.nil_append, List.append_assoc, e1] at e
    injection e with ec _
    exfalso
    subst ec
    rcases hc with rfl | rfl <;> rcases k with ⟨_, b⟩ | ⟨_, b⟩ | ⟨_, b⟩ | ⟨_, b⟩ <;> revert b <;> decide
  | x :: xs, y :: ys, r, r', h, h', e => by
    simp only [okTs, Bool.and_eq_true] at h h'
    simp only [txts, List.append_assoc] at e
    obtain ⟨a, b⟩ := tells g x y _ _ h.1 h'.1 (txtr_delim hc xs r) (txtr_delim hc ys r') e
    obtain ⟨a2, b2⟩ := tellsR g c hc xs ys r r' h.2 h'.2 b
    exact ⟨by rw [a, a2], b2⟩
theorem tellsR (g : DigOk) (c : Nat) (hc : c = 93 ∨ c = 41) : ∀ (xs ys : List PyData) (r r' : List Nat), okTs xs = true → okTs ys = true → txtr c xs ++ r = txtr c ys ++ r' → xs = ys ∧ r = r'
  | [], [], r, r', _, _, e => by
    simp only [txtr, List.cons_append, List.nil_append] at e
    injection e with _ e
    exact ⟨rfl, e⟩
  | [], y :: ys, r, r', _, h', e => by
    simp only [txtr, List.cons_append, List.nil_append] at e
    injection e with ec _
    omega
  | x :: xs, [], r, r', h, _, e => by
    simp only [txtr, List.cons_append, List.nil_append] at e
    injection e with ec _
    omega
  | x :: xs, y :: ys, r, r', h, h', e => by
    simp only [okTs, Bool.and_eq_true] at h h'
    simp only [txtr, List.cons_append, List.append_assoc] at e
    injection e with _ e
    injection e with _ e
    obtain ⟨a, b⟩ := tells g x y _ _ h.1 h'.1 (txtr_delim hc xs r) (txtr_delim hc ys r') e
    obtain ⟨a2, b2⟩ := tellsR g c hc xs ys r r' h.2 h'.2 b
    exact ⟨by rw [a, a2], b2⟩
end
theorem digs_eq (i : Int) : digs i = (toString i).toList.map Char.toNat := by
  unfold digs
  rw [PyData.shown_int]
  show (Str.ofString (toString i)).cps.toList = _
  rw [Str.ofString_eq_toList]
theorem nat_dig (n : Nat) : ∀ c ∈ (Nat.repr n).toList, isDig c.toNat = true := fun c hc => by
  have e : (Nat.repr n).toList = Nat.toDigits 10 n := by simp [Nat.repr]
  rw [e] at hc
  have h := Nat.isDigit_of_mem_toDigits (by decide) (by decide) hc
  unfold isDig
  simp only [Char.isDigit, Bool.and_eq_true, decide_eq_true_eq] at h
  simp only [Bool.or_eq_true, Bool.and_eq_true, decide_eq_true_eq]
  right
  exact ⟨h.1, h.2⟩
theorem digOk : DigOk := by
  refine ⟨fun i c hc => ?_, fun i h => ?_, fun i j h => ?_⟩
  · rw [digs_eq] at hc
    obtain ⟨x, hx, rfl⟩ := List.mem_map.mp hc
    cases i with
    | ofNat n => exact nat_dig n x hx
    | negSucc n =>
      have e : (toString (Int.negSucc n)).toList = '-' :: (Nat.repr (n + 1)).toList := by
        show (("-" : String) ++ Nat.repr (n + 1)).toList = _
        simp
      rw [e] at hx
      rcases List.mem_cons.mp hx with rfl | hx
      · decide
      · exact nat_dig _ x hx
  · rw [digs_eq, List.map_eq_nil_iff] at h
    cases i with
    | ofNat n =>
      have e : (toString (Int.ofNat n)).toList = Nat.toDigits 10 n := by
        show (Nat.repr n).toList = _
        simp [Nat.repr]
      rw [e] at h
      exact Nat.toDigits_ne_nil h
    | negSucc n =>
      have e : (toString (Int.negSucc n)).toList = '-' :: (Nat.repr (n + 1)).toList := by
        show (("-" : String) ++ Nat.repr (n + 1)).toList = _
        simp
      rw [e] at h
      cases h
  · rw [digs_eq, digs_eq] at h
    have h2 : (toString i).toList = (toString j).toList := (List.map_inj_right (f := Char.toNat) fun a b e => by
      exact Char.toNat_inj.mp e).mp h
    exact Int.repr_injective (String.toList_inj.mp h2)

theorem cps_app (x y : Str) : (x ++ y).cps.toList = x.cps.toList ++ y.cps.toList := by
  show (x.cps ++ y.cps).toList = _
  exact Array.toList_append
theorem repr_small {s : Str} (h : s.cps.toList.all small = true) : (reprText s).cps.toList = 39 :: (s.cps.toList ++ [39]) := by
  have hs : ∀ c ∈ s.cps.toList, small c = true := not_quote h
  have n39 : s.cps.contains 39 = false := by
    rw [← Bool.not_eq_true, Array.contains_iff_mem]
    intro hm
    have := hs 39 (Array.mem_toList_iff.mpr hm)
    exact absurd this (by decide)
  have q : reprQuote s = 39 := by
    unfold reprQuote
    rw [n39]; rfl
  have ch : ∀ c, small c = true → Builtin.Str.reprChar 39 c = [c] := fun c hc => by
    have key : ∀ c < 123, small c = true → Builtin.Str.reprChar 39 c = [c] := by decide +kernel
    have : c < 123 := by
      unfold small at hc
      simp only [Bool.and_eq_true, decide_eq_true_eq] at hc
      omega
    exact key c this hc
  unfold reprText
  rw [q, ← Array.foldl_toList]
  have fold : ∀ (l : List Nat) (acc : Array Nat), (∀ c ∈ l, small c = true) → (l.foldl (fun out c => out ++ (Builtin.Str.reprChar 39 c).toArray) acc).toList = acc.toList ++ l := by
    intro l
    induction l with
    | nil => intro acc _; simp
    | cons c l ih =>
      intro acc hl
      rw [List.foldl_cons, ih _ (fun x hx => hl x (List.mem_cons_of_mem _ hx)), ch c (hl c List.mem_cons_self)]
      simp
  show ((s.cps.toList.foldl (fun out c => out ++ (Builtin.Str.reprChar 39 c).toArray) #[39]).push 39).toList = _
  rw [Array.toList_push, fold _ _ hs]
  rfl
theorem txtr_eq (c : Nat) : ∀ xs : List PyData, txtr c xs = (xs.flatMap fun x => 44 :: 32 :: txt x) ++ [c]
  | [] => by simp [txtr]
  | x :: xs => by simp [txtr, txtr_eq c xs]
theorem from_cps : ∀ (ts : List Str) (k : Nat) (acc : Str), (textFrom (k + 1) acc ts).cps.toList = acc.cps.toList ++ ts.flatMap fun t => 44 :: 32 :: t.cps.toList
  | [], k, acc => by simp [textFrom]
  | t :: ts, k, acc => by
    unfold textFrom
    rw [from_cps ts, cps_app, cps_app]
    rw [if_pos (by omega)]
    have e : ((", " : String) : Str).cps.toList = [44, 32] := by decide +kernel
    rw [e]
    simp
theorem join_cps : ∀ (t : Str) (ts : List Str), (Str.join ", " (t :: ts)).cps.toList = t.cps.toList ++ ts.flatMap fun t => 44 :: 32 :: t.cps.toList
  | t, [] => by simp [Str.join]
  | t, u :: ts => by
    have ih := join_cps u ts
    show (t ++ ", " ++ Str.join ", " (u :: ts)).cps.toList = _
    rw [cps_app, cps_app, ih]
    have e : ((", " : String) : Str).cps.toList = [44, 32] := by decide +kernel
    rw [e]
    simp
theorem list_cps (ts : List Str) : (listText ts).cps.toList = 91 :: ((match ts with | [] => [] | t :: ts => t.cps.toList ++ ts.flatMap fun t => 44 :: 32 :: t.cps.toList) ++ [93]) := by
  unfold listText
  rw [cps_app]
  have e : (("]" : String) : Str).cps.toList = [93] := by decide +kernel
  have e2 : (("[" : String) : Str).cps.toList = [91] := by decide +kernel
  rw [e]
  cases ts with
  | nil =>
    unfold textFrom
    rw [e2]; rfl
  | cons t ts =>
    unfold textFrom
    rw [from_cps, cps_app, cps_app, e2]
    have e3 : ((if 0 > 0 then ", " else "" : String) : Str).cps.toList = [] := by decide +kernel
    rw [e3]
    simp
theorem tup_cps (t u : Str) (ts : List Str) : (tupleText (t :: u :: ts)).cps.toList = 40 :: (t.cps.toList ++ ((u :: ts).flatMap fun t => 44 :: 32 :: t.cps.toList) ++ [41]) := by
  unfold tupleText
  rw [cps_app, cps_app, join_cps]
  have e : (("(" : String) : Str).cps.toList = [40] := by decide +kernel
  have e2 : ((")" : String) : Str).cps.toList = [41] := by decide +kernel
  rw [if_neg (by simp), e, e2]
  simp
theorem flat_map {xs : List PyData} (h : ∀ x ∈ xs, (PyData.shown x).cps.toList = txt x) : ((PyData.shownAll xs).flatMap fun t => 44 :: 32 :: t.cps.toList) = xs.flatMap fun x => 44 :: 32 :: txt x := by
  induction xs with
  | nil => simp [PyData.shownAll_nil]
  | cons x xs ih =>
    rw [PyData.shownAll_cons, List.flatMap_cons, List.flatMap_cons, ih (fun y hy => h y (List.mem_cons_of_mem _ hy)), h x List.mem_cons_self]
mutual
theorem shown_txt : ∀ d, okT d = true → (PyData.shown d).cps.toList = txt d
  | .int i, _ => by simp only [txt]; rfl
  | .str s, h => by
    rw [PyData.shown_str]
    simp only [txt]
    exact repr_small (by simpa only [okT] using h)
  | .list xs, h => by
    have ih := shown_txts xs (by simpa only [okT] using h)
    show (listText (PyData.shownAll xs)).cps.toList = _
    rw [list_cps]
    simp only [txt]
    cases xs with
    | nil => rfl
    | cons x xs =>
      rw [PyData.shownAll_cons]
      simp only [txts]
      rw [ih x List.mem_cons_self, flat_map fun y hy => ih y (List.mem_cons_of_mem _ hy), txtr_eq, List.append_assoc]
  | .tuple xs, h => by
    simp only [okT, Bool.and_eq_true, decide_eq_true_eq] at h
    have ih := shown_txts xs h.2
    show (tupleText (PyData.shownAll xs)).cps.toList = _
    match xs, h, ih with
    | [], h, _ => exact absurd h.1 (by decide)
    | [x], h, _ => exact absurd h.1 (by simp)
    | x :: y :: xs, h, ih =>
      rw [PyData.shownAll_cons, PyData.shownAll_cons, tup_cps, ← PyData.shownAll_cons]
      simp only [txt, txts]
      rw [ih x List.mem_cons_self, flat_map fun y hy => ih y (List.mem_cons_of_mem _ hy), txtr_eq, List.append_assoc]
  | .none, h => by simp [okT] at h
  | .bool _, h => by simp [okT] at h
  | .dict _, h => by simp [okT] at h
theorem shown_txts : ∀ xs, okTs xs = true → ∀ x ∈ xs, (PyData.shown x).cps.toList = txt x
  | [], _, x, hx => nomatch hx
  | y :: ys, h, x, hx => by
    simp only [okTs, Bool.and_eq_true] at h
    rcases List.mem_cons.mp hx with e | hx
    · rw [e]; exact shown_txt y h.1
    · exact shown_txts ys h.2 x hx
end
/-- the text tells data apart -/
theorem shown_inj {d d' : PyData} (h : okT d = true) (h' : okT d' = true) (e : PyData.shown d = PyData.shown d') : d = d' := by
  have e2 : txt d ++ [] = txt d' ++ [] := by rw [← shown_txt d h, ← shown_txt d' h', e]
  exact (tells digOk d d' [] [] h h' (fun c hc => nomatch hc) (fun c hc => nomatch hc) e2).1
end Pz

namespace Pz
open PySem PySem.Spec PyProof.Rows L2
/-! ### try with several clauses, each with the same name -/
abbrev Clause := Value × (Addr → Value → Option Addr → TS)
/-- behind a clause its name is gone -/
def gone (i : Nat) (D : Ends) : Ends := { nx := fun σ' H' => D.nx (σ'.set i none) H', rt := D.rt, bk := fun σ' H' => D.bk (σ'.set i none) H', ct := fun σ' H' => D.ct (σ'.set i none) H' }
def wAll (K : PySem.W.Frag) (i : Nat) (Wo : WX) (D : Ends) : List Clause → WX
  | [] => Wo
  | u :: r => fun cls d σ H => ∃ b, PySem.W.exmOne K cls u.1 = some b ∧ (b = true → ∀ a, H a = none → u.2 a cls d (gone i D) (σ.set i (some (.ref a))) H) ∧ (b = false → wAll K i Wo D r cls d σ H)
inductive Clauses (X : Cx) (n : Str) : List ExceptHandler → List Clause → Prop
  | nil : Clauses X n [] []
  | cons {y : Str} {c : Value} {ts : Addr → Value → Option Addr → TS} {st : Stmt} {sts : List Stmt} {p1 p2 : Pos} {hs : List ExceptHandler} {l : List Clause} (hc : Names X y c)
      (body : ∀ (a : Addr) (ob : Obj) (cls : Value) (d : Option Addr) (more : List (Addr × Obj)), Zc cls d ob → (∃ vs, ob.data = .fields vs) → PSs (X.suite a ((a, ob) :: more)) (st :: sts) (ts a cls d)) (r : Clauses X n hs l) :
      Clauses X n (.ExceptHandler (some (.Name y p1)) (some n) (st :: sts) p2 :: hs) ((c, ts) :: l)
section
variable {X : Cx} {bd : List Stmt} {h1 : ExceptHandler} {hs : List ExceptHandler} {l : List Clause} {p : Pos} {tb : WX → TS} {Wo : WX} {n : Str} {i : Nat}
theorem ps_try_all (q1 : X.stack = X.env :: X.outer) (q2 : X.env.frame = some X.env.locals) (q3 : X.N.Nodup) (q4 : X.N[i]? = some n) (q5 : X.env.kindOf n = some .local) (tk : Takes X Wo)
    (hb : ∀ (W : WX) (more : List (Addr × Obj)) (xe : Value → Shared → Prop), Takes (X.tr more xe) W → PassesOwn (model X.prog X.w) X.A X.env xe → PSs (X.tr more xe) bd (tb W))
    (hh : Clauses X n (h1 :: hs) l) : PS X (.Try bd (h1 :: hs) [] [] p) (fun D σ H => tb (wAll X.K i Wo D l) D σ H) := by
  constructor
  intro pins s σ H D I h
  have okX := I.ok
  have frX : X.A.frames = some (X.env :: X.outer) := okX.frames.trans (by rw [q1])
  have locX : Loc X.env.scope n := Or.inl q5
  apply wpAny_Try_except
  let xe : Value → Shared → Prop := fun ex s1 => wpAny (model X.prog X.w) X.A (noteFrame ex X.env) (fun _ s2 => wpAny (model X.prog X.w) X.A (setFlight ex none) (fun _ s3 =>
      wpAny (model X.prog X.w) X.A (handleBy ex X.env (h1 :: hs)) (SP X pins D) X.xe s3) X.xe s2) X.xe s1
  have caught : Takes (X.tr (X.pn ++ pins) xe) (wAll X.K i Wo D l) := by
    rintro u s' ⟨a, B, sI, pins', σ', H', cls, d, rfl, J', nb, up, sky, na, os, ag, w⟩
    have J : Inv X pins σ' H' sI := J'.ofTry okX
    have sk : Sky B (X.env :: X.outer) a (Zc cls d) X.env.locals s'.heap := q1 ▸ sky
    show wpAny (model X.prog X.w) X.A (noteFrame (.ref a) X.env) _ _ _
    apply Sky.land Zc.steady frX q2 sk
    intro hp3 f3 u3
    have K3 : Inv X pins σ' H' { s' with heap := hp3 } := J.landed nb f3.1 (up.trans u3) os ag
    obtain ⟨ob, vs, eo, ez, ed⟩ := f3.there
    have apart : a ∉ frs (X.env :: X.outer) := by
      intro hm
      obtain ⟨_, o2, e2, nf⟩ := f3.2.2.1.mem hm
      rw [eo] at e2
      cases e2
      exact nf _ ed
    have aL : a ≠ X.env.locals := by
      intro z
      exact apart (List.mem_filterMap.mpr ⟨X.env, List.mem_cons_self, by rw [q2, z]⟩)
    have aF : a ∉ X.fs := by
      intro hm
      obtain ⟨e3, he3, w3⟩ := List.mem_filterMap.mp hm
      exact apart (List.mem_filterMap.mpr ⟨e3, List.mem_cons_of_mem _ he3, w3⟩)
    have T3 := K3.suite eo ed na aL aF
    have look : PySem.W.Looks (model X.prog X.w) hp3 (typeOf (.ref a)) cls := fun A Q E t k z => wpAny_typeOf_ref (k _ _ eo) (ez.1 ▸ z)
    have walk : ∀ {hs' : List ExceptHandler} {l' : List Clause}, Clauses X n hs' l' → wAll X.K i Wo D l' cls d σ' H' → wpAny (model X.prog X.w) X.A (handleBy (.ref a) X.env hs') (SP X pins D) X.xe { s' with heap := hp3 } := by
      intro hs' l' cl
      induction cl with
      | nil =>
        intro ww
        apply wpAny_handleBy_nil
        obtain ⟨_, _, _, o5, v5, T5, oT5, t5, g1, g2, g3, g4, g5⟩ := id f3
        unfold PySem.passOn
        apply wpAny_bind
        apply wpAny_field g1 g3 g4
        rw [if_neg (by simp : ¬ ((Value.ref T5 == Value.none) = true))]
        have up2 : wpAny (model X.prog X.w) X.A (setFlight (.ref a) X.env.frame) (fun _ s4 => wpAny (model X.prog X.w) X.A (throw (.ref a) : Sem Flow) (SP X pins D) X.xe s4) X.xe { s' with heap := hp3 } := by
          rw [q2]
          apply HandSPX.setFlight_upZ f3
          intro hp4 f4 u4
          exact wpAny_throw (tk _ _ ⟨a, B, sI, pins, σ', H', cls, d, rfl, J, nb, (up.trans u3).trans u4, .inr (.inr (q1.symm ▸ f4)), na, os, ag, ww⟩)
        first
          | exact wpAny_bind (wpAny_pure (wpAny_bind up2))
          | exact wpAny_bind up2
      | @cons y c ts st sts p1 p2 hs2 l2 hc body r ih =>
        rintro ⟨b, eb, yes, no⟩
        apply wpAny_handleBy_cons _ (by intro z; cases z)
        apply codeAny_handlers_test
        have ask : ∀ {Q E : Value → Shared → Prop}, Q c { s' with heap := hp3 } → wpAny (model X.prog X.w) (X.A.mark (some (.ref a))) (eval (.Name y p1) X.env) Q E { s' with heap := hp3 } := by
          intro Q E z
          obtain ⟨hg, hd, hm | ⟨hm, hv, hn⟩⟩ := hc
          · exact ld_glob (X := X.suite a ((a, ob) :: (X.pn ++ pins))) T3 hg hm z hd
          · exact ld_blt (X := X.suite a ((a, ob) :: (X.pn ++ pins))) T3 hg hm hv z hn hd
        apply ask
        apply (PySem.W.exm_one (M := model X.prog X.w) K3.kIn look eb).here
        cases b with
        | false => exact ih (no rfl)
        | true =>
          apply codeAny_handlers_suite_as
          apply HandSPX.lands_againZ f3
          intro hp4 f4 u4
          have K4 : Inv X pins σ' H' { s' with heap := hp4 } := J.landed nb f4.1 ((up.trans u3).trans u4) os ag
          obtain ⟨o4, v4, eo4, ez4, ed4⟩ := f4.there
          have T4 := K4.suite eo4 ed4 na aL aF
          refine store_ok (X := X.suite a ((a, o4) :: (X.pn ++ pins))) (v := .ref a) T4 q3 q4 locX rfl ?_ (.inr q5)
          intro s5 T5
          refine wpAny_mono ((body a o4 cls d (X.pn ++ pins) ez4 ⟨_, ed4⟩).run [] s5 _ H' _ T5 (yes rfl a na)) ?_ (fun _ _ z => z.elim)
          intro f s6 hsp
          have close : ∀ {σ6 : L2.St} {H6 : Hp} {Q : Shared → Prop}, Inv (X.suite a ((a, o4) :: (X.pn ++ pins))) [] σ6 H6 s6 → (∀ s7, Inv X pins (σ6.set i none) H6 s7 → Q s7) →
              wpAny (model X.prog X.w) X.A (do bindName X.env n .none; unbindBehindTheSuite X.env n p2) (fun _ s7 => Q s7) X.xe s6 := by
            intro σ6 H6 Q U hq
            exact gone_ok (U.unsuite okX) q3 q4 q5 hq
          match f, hsp with
          | .next, ⟨σ6, H6, U, z⟩ => exact close U fun _ V => ⟨_, _, V, z⟩
          | .brk, ⟨σ6, H6, U, z⟩ => exact close U fun _ V => ⟨_, _, V, z⟩
          | .cont, ⟨σ6, H6, U, z⟩ => exact close U fun _ V => ⟨_, _, V, z⟩
          | .ret _, ⟨v6, σ6, H6, U, r6, z⟩ => exact close U fun _ V => ⟨_, _, _, V, r6, z⟩
    exact walk hh w
  refine wpAny_mono ((hb (wAll X.K i Wo D l) (X.pn ++ pins) xe caught PassesOwn.looking).run [] s σ H D (I.toTry _) h) ?_ (fun _ _ z => z)
  intro f s1 hsp
  match f, hsp with
  | .next, ⟨σ', H', V, z⟩ => exact wpAny_execs_nil ⟨σ', H', V.ofTry okX, z⟩
  | .brk, ⟨σ', H', V, z⟩ => exact ⟨σ', H', V.ofTry okX, z⟩
  | .cont, ⟨σ', H', V, z⟩ => exact ⟨σ', H', V.ofTry okX, z⟩
  | .ret _, ⟨v, σ', H', V, r, z⟩ => exact ⟨v, σ', H', V.ofTry okX, r, z⟩
end
end Pz

namespace Pz
open PySem PySem.Spec PyProof.Rows L2
/-! ### min of a list of texts -/
def leS (a b : Str) : Prop := a.cps.toList ≤ b.cps.toList
theorem leS_refl (a : Str) : leS a a := List.le_refl _
theorem leS_trans {a b c : Str} (h : leS a b) (h' : leS b c) : leS a c := List.le_trans h h'
theorem leS_anti {a b : Str} (h : leS a b) (h' : leS b a) : a = b := str_inj (List.le_antisymm h h')
theorem leS_of_not {a b : Str} (h : ¬ b.cps.toList < a.cps.toList) : leS a b := h
theorem leS_of_lt {a b : Str} (h : a.cps.toList < b.cps.toList) : leS a b := List.le_of_lt h
theorem rising_le : ∀ (r : List Str) (p : Str), risingS p r = true → ∀ y ∈ r, leS p y
  | [], _, _, _, h => nomatch h
  | x :: r, p, h, y, hy => by
    unfold risingS at h
    simp only [Bool.and_eq_true] at h
    have h1 : leS p x := by
      have h0 := h.1
      rw [ltCps_eq] at h0
      exact leS_of_not (by simpa using h0)
    rcases List.mem_cons.mp hy with rfl | hy
    · exact h1
    · exact leS_trans h1 (rising_le r x h.2 y hy)
theorem sorted_le : ∀ {ys : List Str}, sortedS ys = true → ys.Pairwise leS
  | [], _ => .nil
  | x :: r, h => by
    have h' : risingS x r = true := h
    refine .cons (rising_le r x h') (sorted_le ?_)
    cases r with
    | nil => rfl
    | cons y r =>
      unfold risingS at h'
      simp only [Bool.and_eq_true] at h'
      exact h'.2
theorem best_str (t : Nat → Str) : ∀ k, argBest (fun i j => decide ((t i).cps.toList < (t j).cps.toList)) k ≤ k ∧ ∀ j, j ≤ k → leS (t (argBest (fun i j => decide ((t i).cps.toList < (t j).cps.toList)) k)) (t j)
  | 0 => ⟨Nat.le_refl _, fun j hj => by
    have : j = 0 := by omega
    rw [this]; exact leS_refl _⟩
  | k + 1 => by
    obtain ⟨h1, h2⟩ := best_str t k
    unfold argBest
    by_cases c : (t (k + 1)).cps.toList < (t (argBest (fun i j => decide ((t i).cps.toList < (t j).cps.toList)) k)).cps.toList
    · rw [if_pos (decide_eq_true c)]
      refine ⟨Nat.le_refl _, fun j hj => ?_⟩
      by_cases e : j = k + 1
      · rw [e]; exact leS_refl _
      · exact leS_trans (leS_of_lt c) (h2 j (by omega))
    · rw [if_neg (by simpa using c)]
      refine ⟨by omega, fun j hj => ?_⟩
      by_cases e : j = k + 1
      · rw [e]; exact leS_of_not c
      · exact h2 j (by omega)
theorem strs_at : ∀ {us : List Value} {xs : List Str}, StrsAre us xs → ∀ (i : Nat) (v : Value), us[i]? = some v → ∃ x t, xs[i]? = some x ∧ v = .str x t
  | _, _, .nil, i, v, h => by simp at h
  | _, _, .cons x t r, i, v, h => by
    cases i with
    | zero =>
      have e := Option.some.inj h
      exact ⟨x, t, rfl, e.symm⟩
    | succ i => exact strs_at r i v (by simpa using h)
theorem StrsAre.len : ∀ {us : List Value} {xs : List Str}, StrsAre us xs → us.length = xs.length
  | _, _, .nil => rfl
  | _, _, .cons x t r => by simp [StrsAre.len r]
def rMinS (K : PySem.W.Frag) : List V → Hp → VK → Prop := fun vs H Q => ∃ (a : Addr) (xs : List Str), vs = [V.ref a] ∧ SqL K H a (xs.map V.str) ∧ 0 < xs.length ∧ ∀ m, m ∈ xs → (∀ y ∈ xs, leS m y) → Q (.str m) H
theorem cr_minS {X : Cx} (hc : X.calm = true) : CallR X (.builtin "min") (rMinS X.K) := by
  intro pins s σ H vs us Q I r h
  obtain ⟨a, xs, rfl, hs, hne, q⟩ := h
  obtain ⟨its, rv, hl, _⟩ := I.list hs
  rw [Vals.ref1 r]
  have sa := rv.strs
  have hlen := StrsAre.len sa
  have hh := I.ok.hd hc
  have hL := hl.isList
  have lt : a < s.heap.objs.size := hl.lt
  show wpAny (model X.prog X.w) X.A (call (.builtin "min") [.ref a]) _ _ s
  refine call_min_walk (wpAny_pyIter_list hL ?_)
  let t : Nat → Str := fun i => (xs[i]?).getD Str.empty
  have cmp : CmpOf X.prog X.w X.A.in1 .Lt (fun i v => its.toArray[i]? = some v) (fun i j => decide ((t i).cps.toList < (t j).cps.toList)) := by
    intro i j vi vj s2 Q2 E2 hi hj hq
    obtain ⟨x, u, ex, rfl⟩ := strs_at sa i vi (by simpa using hi)
    obtain ⟨y, u2, ey, rfl⟩ := strs_at sa j vj (by simpa using hj)
    have e1 : t i = x := by show (xs[i]?).getD _ = x; rw [ex]; rfl
    have e2 : t j = y := by show (xs[j]?).getD _ = y; rw [ey]; rfl
    have hq' : Q2 (.bool (decide ((t i).cps.toList < (t j).cps.toList))) s2 := hq
    rw [e1, e2] at hq'
    exact PyProof.Rows.lt_str hq'
  refine ⟨_, _, _, _, _, _, _, rfl, Walks.list (A := X.A.in1) hh _ a (Nat.ne_of_lt lt) its.toArray, ⟨⟨_, Heap.get?_push_size _ rfl, rfl, rfl⟩, hL.push _⟩, ?_, by simp; omega, cmp, fun v h' tk hP hk => ?_⟩
  · intro b hb
    show b < (s.heap.push _).objs.size
    rw [Heap.size_push]
    simp only [List.mem_cons, List.not_mem_nil, or_false] at hb
    rcases hb with rfl | rfl
    · exact Nat.lt_succ_self _
    · exact Nat.lt_succ_of_lt lt
  · obtain ⟨b1, b2⟩ := best_str t (its.toArray.size - 1)
    have hP' := hP
    rw [List.getElem?_toArray] at hP'
    obtain ⟨x, u, ex, rfl⟩ := strs_at sa _ v hP'
    have e1 : t (argBest (fun i j => decide ((t i).cps.toList < (t j).cps.toList)) (its.toArray.size - 1)) = x := by show (xs[_]?).getD _ = x; rw [ex]; rfl
    rw [e1] at b2
    refine ⟨.str x, H, I.kept (old_kept hk), ⟨u, rfl⟩, q x (List.mem_of_getElem? ex) fun y hy => ?_⟩
    obtain ⟨j, hj, ej⟩ := List.mem_iff_getElem.mp hy
    have e2 : t j = y := by show (xs[j]?).getD _ = y; rw [List.getElem?_eq_getElem hj, ej]; rfl
    rw [← e2]
    exact b2 j (by simp; omega)
/-! ### defs and methods that raise, by their promise -/
section
variable {P : Program} {w : World} {K : PySem.W.Frag} {mg : Str → Option Value} {base : Heap}
structure FnX (P : Program) (w : World) (K : PySem.W.Frag) (mg : Str → Option Value) (base : Heap) (k : Nat) (x : Str) (ps : List Str) (sp : Sp) : Prop where
  ex : ∃ f fd, mg x = some (.ref f) ∧ PySem.W.keepIn K (.ref f) = true ∧ Binds K fd ps [] ∧ FnOk P w K mg base (L2.CX P w) k f fd ps sp
structure MthX (P : Program) (w : World) (K : PySem.W.Frag) (mg : Str → Option Value) (base : Heap) (k : Nat) (C : Addr) (m : Str) (ps : List Str) (sp : Sp) : Prop where
  ex : ∃ f fd, Cls K C ∧ Meth K C m f ∧ Binds K fd ps [] ∧ FnOk P w K mg base (L2.CX P w) k f fd ps sp
theorem DefAt.fnX {x : Str} {st : Stmt} {N ps : List Str} {k : Nat} {sp : Sp} (D : DefAt K mg x st ps) (S : FnScope N ps (defScope st)) (len : ∀ vs H Q E, sp vs H Q E → vs.length = ps.length)
    (hbody : ∀ (cdv : Value) (A : Around) (outer : List Env) (f : Addr) (s : Shared) (H : Hp) (vs : List V) (Q : VK) (E : XK), Room k (A.deeper (envOfC x (defScope st) s.heap.objs.size f cdv)) → sp vs H Q E →
      ∃ t, PSs (cxOf (L2.CX P w) P w K mg base N x (defScope st) f cdv A outer s H E) (defBody st) t ∧ t { nx := fun _ H' => Q .non H', rt := Q } (start N vs) H) : FnX P w K mg base (k + 1) x ps sp := by
  obtain ⟨f, fd, hm, F, hb⟩ := D.ex
  exact ⟨f, fd, hm, F.kp, hb, F.okX S len fun cdv A outer s H vs Q E hr h => hbody cdv A outer f s H vs Q E hr h⟩
theorem pe_fnX {X : Cx} {k : Nat} {x : Str} {ps : List Str} {sp : Sp} {p pos : Pos} {e : Expr} {es : List Expr} {t : TA} {E : XK} (F : FnX X.prog X.w X.K X.mg X.base k x ps sp) (hr : Room k X.A) (hg : Gl X x) (hx : Passes (L2.CX X.prog X.w) X E)
    (ha : PA X (e :: es) t) (hdb : (x == ("__debug__" : Str)) = false := by decide) (he : starEach (e :: es) X.env = (false, eval e X.env) :: starEach es X.env := by rfl)
    (hpl : (backTo pos (starEach es X.env)).any (·.1) = false := by rfl) : PE X (.Call (.Name x p) (e :: es) [] pos) (tCall sp [] E t) := by
  obtain ⟨f, fd, a, b, c, d⟩ := F.ex
  exact pe_call d hr hg a b c .nil hx ha hdb he hpl
theorem pe_mthX {X : Cx} {k : Nat} {C : Addr} {m : Str} {ps : List Str} {sp : Sp} {apos pos : Pos} {o e : Expr} {es : List Expr} {to : TE} {t : TA} {pl : Sem Bool} {E : XK} (F : MthX X.prog X.w X.K X.mg X.base k C m ps sp) (hr : Room k X.A) (hx : Passes (L2.CX X.prog X.w) X E)
    (he : PE X o to) (ha : PA X (e :: es) t)
    (hst : starEach (e :: es) X.env = (false, eval e X.env) :: starEach es X.env := by rfl) (hpl : (backTo pos (starEach es X.env)).any (·.1) = false := by rfl)
    (ht : eval (.Call (.Attribute o m apos) (e :: es) [] pos) X.env = (do
      let ov ← eval o X.env
      standAt apos.atName
      let (f, first) ← holding [ov] (getMethod ov m pl)
      callWith pos f first (backTo pos (starEach (e :: es) X.env)) (backToKw pos (keywordEach [] X.env))) := by rfl) :
    PE X (.Call (.Attribute o m apos) (e :: es) [] pos) (tMeth C m sp [] E to t) := by
  obtain ⟨f, fd, a, b, c, d⟩ := F.ex
  exact pe_meth he a b d hr c .nil hx ha hst hpl ht
/-- a def within a try -/
theorem pe_fnS {X : Cx} {k : Nat} {x : Str} {ps : List Str} {sp : Sp} {p pos : Pos} {e : Expr} {es : List Expr} {t : TA} {W : WX} (F : FnX X.prog X.w X.K X.mg X.base k x ps sp) (hr : Room k X.A) (tk : Takes X W) (hg : Gl X x)
    (ha : PA X (e :: es) t) (hdb : (x == ("__debug__" : Str)) = false := by decide) (he : starEach (e :: es) X.env = (false, eval e X.env) :: starEach es X.env := by rfl)
    (hpl : (backTo pos (starEach es X.env)).any (·.1) = false := by rfl) : PE X (.Call (.Name x p) (e :: es) [] pos) (tCallS sp (WE W) t) := by
  obtain ⟨f, fd, a, b, c, d⟩ := F.ex
  exact pe_callS d hr hg a b c (fun σ => passAt tk σ) ha hdb he hpl
/-- a method within a try: what it raises, at the slots as they stand -/
def tMthS (C : Addr) (m : Str) (sp : Sp) (E : L2.St → XK) (to : TE) (t : TA) : TE := fun σ H Q => to σ H fun x H1 => ∃ a dx fs, x = .ref a ∧ H1 a = some (.ins C dx fs) ∧ fs.lookup m = none ∧ t σ H1 fun vs H2 => sp (x :: vs) H2 Q (E σ)
theorem pe_mthS {X : Cx} {k : Nat} {C : Addr} {m : Str} {ps : List Str} {sp : Sp} {apos pos : Pos} {o e : Expr} {es : List Expr} {to : TE} {t : TA} {pl : Sem Bool} {W : WX} (F : MthX X.prog X.w X.K X.mg X.base k C m ps sp) (hr : Room k X.A) (tk : Takes X W)
    (he : PE X o to) (ha : PA X (e :: es) t)
    (hst : starEach (e :: es) X.env = (false, eval e X.env) :: starEach es X.env := by rfl) (hpl : (backTo pos (starEach es X.env)).any (·.1) = false := by rfl)
    (ht : eval (.Call (.Attribute o m apos) (e :: es) [] pos) X.env = (do
      let ov ← eval o X.env
      standAt apos.atName
      let (f, first) ← holding [ov] (getMethod ov m pl)
      callWith pos f first (backTo pos (starEach (e :: es) X.env)) (backToKw pos (keywordEach [] X.env))) := by rfl) :
    PE X (.Call (.Attribute o m apos) (e :: es) [] pos) (tMthS C m sp (WE W) to t) := by
  obtain ⟨f, fd, hc, hm, hb, hf⟩ := F.ex
  constructor
  intro pins s σ H Q I h
  apply PySem.W.methodCall_KW (pl := pl) _ ht
  refine thn (he.run pins s σ H _ I h) ?_
  rintro u s1 ⟨x, H1, I1, rx, a, dx, fs, rfl, ea, l, q⟩
  cases rx
  apply getmeth_ok I1 ea hc hm l
  apply PySem.W.callWith_K (first := [.ref a]) (h₀ := X.base) I.ok.mod.kin hm.kp _ hst hpl
  refine thn (ha.run pos pins s1 σ H1 _ I1 q) ?_
  rintro us s2 ⟨vs, H2, I2, r, q2⟩
  exact ⟨I2.kIn, run_fnS (us := .ref a :: us) (vs := .ref a :: vs) hf hr hb (passAt tk σ) I2 (.cons rfl r) q2⟩
end
end Pz
namespace Pz
open PySem L2
def emp : Hp := fun _ => none
theorem emp_same (H : Hp) : Same emp H := fun b o e => nomatch e
theorem pe_joinK {X : Cx} {K : PySem.W.Frag} {o e : Expr} {to te : TE} {apos pos : Pos} (ho : PE X o to) (he : PE X e te) (hs : starEach [e] X.env = [(false, eval e X.env)] := by rfl) (hbase : attributeBase o "join" X.env (eval o X.env) = eval o X.env := by rfl) (hline : (apos.endLine == pos.line) = true := by rfl) (h : X.K = K := by rfl) :
    PE X (.Call (.Attribute o "join" apos) [e] [] pos) (tM1 (fun x xs H Q => ∃ a p, ∃ ys : List Str, x = .str a ∧ xs = [.ref p] ∧ (SqL K H p (ys.map V.str) ∨ SqT K H p (ys.map V.str)) ∧
      (ys.map (·.length)).sum + ys.length * a.length ≤ 16777216 ∧ Q (.str (Txt.join a ys)) H) to te) := h ▸ pe_join ho he hs hbase hline
end Pz

namespace Pz
open PySem PySem.W PySem.Spec PyProof.Rows L2
/-! ### a, b, *rest = a list -/
section
variable {prog : Program} {w : World} {A : Around} {E : Value → Shared → Prop} {s : Shared}
theorem star_list {l : Addr} {us : Array Value} {i : Nat} {Q : List Value → Shared → Prop} (hl : s.heap.IsList l us) (hh : A.handled = none) (hi : i ≤ us.size) (hz : us.size ≤ 16384)
    (k : ∀ (h' : Heap) (tk : Nat), (∀ b o, s.heap.get? b = some o → h'.get? b = some o) →
      Q (us.toList.take i ++ [.ref h'.objs.size]) { s with heap := h'.push { cls := .type "list", data := .seq (us.toList.drop i).toArray }, toks := tk }) :
    wpAny (model prog w) A (unpackItems (.ref l) (i + 1) (some i)) Q E s := by
  obtain ⟨o0, ho0, _⟩ := id hl
  have old := Heap.lt_size ho0
  have ne : l ≠ s.heap.objs.size := Nat.ne_of_lt old
  have sz : us.toList.length = us.size := Array.length_toList
  unfold unpackItems notIterableAtAll
  refine wpAny_bind (wpAny_bind (wpAny_specialOf hl.typeIs slot_list_iter.lookup (wpAny_pure ?_)))
  rw [if_neg (by simp)]
  refine wpAny_bind (wpAny_holding (wpAny_pyIter_list hl ?_))
  refine wpAny_bind (wpAny_holding (kun_draw ne i 0 _ _ ⟨_, Heap.get?_push_size _ rfl, rfl, rfl⟩ (hl.push _) (by omega) fun h1 it1 sb1 => ?_))
  rw [Nat.zero_add] at it1
  have l1 : h1.IsList l us := (hl.push _).extBut sb1.extBut ne
  obtain ⟨oi, hoi, _⟩ := id it1
  obtain ⟨ol, hol, _⟩ := id l1
  have e0 : (us.toList.drop 0).take i = us.toList.take i := by rw [List.drop_zero]
  rw [e0, if_neg (by rw [List.length_take]; omega)]
  refine wpAny_bind (wpAny_holding (kun_collect (s := { s with heap := h1 }) (T := "list_iterator") (.inr (.inr (.inl rfl))) (Walks.list (A := A.in1) hh s.heap.objs.size l ne us) (fun j u st => st.1.typeIs) (k := i) hi ⟨it1, l1⟩ (Heap.lt_size hoi) (Heap.lt_size hol) (fun h2 tk keep => ?_) (by rw [sizeLine_eq]; omega)))
  have all : (us.toList.drop i).length - (i + 1 - 1 - i) = (us.toList.drop i).length := by omega
  show wpAny _ _ (if (us.toList.drop i).length < i + 1 - 1 - i then _ else _) _ _ _
  rw [if_neg (by omega)]
  show wpAny _ _ (newList ((us.toList.drop i).take ((us.toList.drop i).length - (i + 1 - 1 - i))) >>= fun d => pure (us.toList.take i ++ [d] ++ (us.toList.drop i).drop ((us.toList.drop i).length - (i + 1 - 1 - i)))) _ _ _
  rw [all, List.take_length, List.drop_length]
  have sub : ∀ b o, s.heap.get? b = some o → h2.get? b = some o := fun b o e => keep b o (Nat.ne_of_lt (Heap.lt_size e)) (sb1.extBut b o (Nat.ne_of_lt (Heap.lt_size e)) (Heap.get?_push_of_some _ e))
  refine wpAny_bind (wpAny_newList (wpAny_pure ?_) (by rw [List.length_drop, sz, sizeLine_eq]; omega))
  rw [List.append_nil]
  exact k h2 tk sub
end
/-- a, b, .., *rest = a list: i names ahead of the rest -/
def gStar (K : PySem.W.Frag) (i : Nat) (t : TGs) : TG := fun v σ H Q => ∃ a xs, v = .ref a ∧ SqL K H a xs ∧ i ≤ xs.length ∧ xs.length ≤ 16384 ∧ ∀ p, H p = none → t (xs.take i ++ [.ref p]) σ (upd H p (.lst (xs.drop i))) Q
section
variable {X : Cx} {pos : Pos}
theorem vals_take {xs : List V} {us : List Value} (r : Vals xs us) : ∀ i, Vals (xs.take i) (us.take i) := by
  induction r with
  | nil => intro i; simp; exact .nil
  | cons r t ih =>
    intro i
    cases i with
    | zero => exact .nil
    | succ i => exact .cons r (ih i)
theorem vals_drop {xs : List V} {us : List Value} (r : Vals xs us) : ∀ i, Vals (xs.drop i) (us.drop i) := by
  induction r with
  | nil => intro i; simp; exact .nil
  | cons r t ih =>
    intro i
    cases i with
    | zero => exact .cons r t
    | succ i => exact ih i
theorem vals_snoc {xs : List V} {us : List Value} {x : V} {u : Value} (r : Vals xs us) (h : RelV x u) : Vals (xs ++ [x]) (us ++ [u]) := by
  induction r with
  | nil => exact .cons h .nil
  | cons r t ih => exact .cons r ih
theorem pgs_star {e : Expr} {p : Pos} {t : TG} (h1 : PG X e t)
    (hs : (assignEach [.Starred e p] X.env).map (·.2) = [assign e X.env] := by rfl) : PGs X [.Starred e p] (gCons t gNil) := by
  refine ⟨fun pins s σ H vs us Q I r h => ?_⟩
  obtain ⟨v, vr, e1, h⟩ := h
  subst e1
  cases r with
  | cons r rr =>
    rw [hs]
    refine assignInOrder_cons (thn (h1.run pins s σ H _ _ _ I r h) fun _ s1 ⟨σ1, H1, I1, q1⟩ => ?_)
    obtain ⟨e2, q1⟩ := q1
    subst e2
    cases rr
    exact assignInOrder_nil ⟨σ1, H1, I1, q1⟩
theorem pg_star {es : List Expr} {k : Nat} {t : TGs} {i : Nat} (hc : X.calm = true) (h : PGs X es t)
    (hn : (assignEach es X.env).length = i + 1 := by rfl) (hst : (assignEach es X.env).findIdx? (·.1) = some i := by rfl) : PG X (.Tuple es k pos) (gStar X.K i t) := by
  refine ⟨fun pins s σ H v u Q I r hw => ?_⟩
  obtain ⟨a, xs, e1, hq, hi, hl, hw⟩ := hw
  subst e1
  cases r
  obtain ⟨its, rv, pl, hz⟩ := I.list hq
  have el := rv.length
  rw [PyProof.Rows.assign_Tuple]
  refine wpAny_bind (wpAny_standAt ?_)
  unfold unpack
  rw [hn, hst]
  refine wpAny_bind (wpAny_holding (star_list pl.isList (I.ok.hd hc) (by simpa [← el] using hi) (by simpa [← el] using hl) fun h' tk keep => ?_))
  have I1 : Inv X pins σ H { s with heap := h', toks := tk } := I.kept keep
  have hp := I1.hok.fresh (Nat.le_refl _)
  have I2 := I1.laid (a := h'.objs.size) (o := .lst (xs.drop i)) (h' := h'.push { cls := .type "list", data := .seq (its.drop i).toArray }) (t' := tk) (fun b u q => Heap.get?_push_of_some _ q) (Nat.le_refl _) ⟨by rw [List.length_drop]; omega, its.drop i, _, vals_drop rv i, Heap.get?_push_size _ rfl⟩
  exact h.run pins _ σ _ _ _ Q I2 (by simpa using vals_snoc (vals_take rv i) (x := .ref h'.objs.size) (u := .ref h'.objs.size) rfl) (hw _ hp)
end
end Pz
namespace Pz
open PySem L2
/-! ### a comprehension that makes data of some items -/
section
variable {K : PySem.W.Frag} {a D : Addr} {xs : List V} {g : TG} {tt : TT} {te : TE} {vs : List Nat} {σ : St} {H F0 : Hp} {Qd : Hp → Prop}
theorem lc_pick (ds : List (Option PyData)) (hl : ds.length = xs.length) (hz : xs.length ≤ 1000) (hs : SqL K H a xs) (hD : H D = none) (sF : Same F0 H)
    (step : ∀ (i : Nat) (x : V) (od : Option PyData) (F' H' : Hp) (Q' : VK) (Nx : Hp → Prop), xs[i]? = some x → ds[i]? = some od → Same H H' → Gr F0 H F' H' → H' D ≠ none → F' D = none →
      (∀ d, od = some d → ∀ y F4 H4, Same H' H4 → Gr F' H' F4 H4 → R F4 d y → Q' y H4) → (od = none → ∀ H4, Same H' H4 → Nx H4) →
      g x (wipe σ vs) H' fun σ2 H2 => wipe σ2 vs = wipe σ vs ∧ tt σ2 H2 fun b H3 => if b = true then te σ2 H3 Q' else Nx H3)
    (hd : ∀ F' H' ys, Same H H' → Gr F0 H F' H' → F' D = none → RA F' (ds.filterMap id) ys → H' D = some (.lst ys) → Qd H') :
    ∃ W : Nat → Nat → Hp → Prop, (∃ m, W 0 m (upd H D (.lst []))) ∧ ∀ i m H, W i m H →
      ((Itl K a).stop i H ∧ Qd H) ∨ ((Itl K a).go i H ∧ ∃ Nx : Hp → Prop, (∀ H', Nx H' → ∃ m', m' < m ∧ W (i + 1) m' H') ∧ ∀ x H', (Itl K a).yld i H x H' → g x (wipe σ vs) H' fun σ2 H2 => wipe σ2 vs = wipe σ vs ∧ tt σ2 H2 fun b H3 =>
        if b = true then te σ2 H3 fun y H4 => ∃ acc, H4 D = some (.lst acc) ∧ acc.length < sizeLine ∧ Nx (upd H4 D (.lst (acc ++ [y]))) else Nx H3) := by
  have f0D : F0 D = none := same_none sF hD
  refine lc_list (tt := tt) (fun i H' => ∃ F' ys, Same H H' ∧ Gr F0 H F' H' ∧ F' D = none ∧ RA F' ((ds.take i).filterMap id) ys ∧ H' D = some (.lst ys))
    ⟨F0, [], same_upd hD, (Gr.refl sF).put f0D, f0D, by simp [RA], upd_same⟩ (fun i H' _ ⟨F', ys, s1, _⟩ => s1.seq hs) (fun i x H' hx ⟨F', ys, s1, gr, fD, ra, hD'⟩ => ?_) (fun H' ⟨F', ys, s1, gr, fD, ra, hD'⟩ => ?_)
  · have hi := (List.getElem?_eq_some_iff.mp hx).1
    have hd' : ds[i]? = some (ds[i]'(by omega)) := List.getElem?_eq_getElem (by omega)
    have el := RA.len ra
    have el2 := List.length_filterMap_le id (ds.take i)
    rw [List.length_take] at el2
    have nD : H' D ≠ none := by rw [hD']; exact fun q => nomatch q
    have e2 : (ds.take (i + 1)).filterMap id = (ds.take i).filterMap id ++ (match ds[i]'(by omega) with | some d => [d] | none => []) := by
      rw [List.take_add_one, hd', List.filterMap_append]
      congr 1
      cases ds[i]'(by omega) <;> rfl
    generalize ds[i]'(by omega) = od at *
    refine step i x od F' H' _ _ hx hd' s1 gr nD fD (fun d ed y F4 H4 s4 g4 hR => ?_) (fun ed H4 s4 => ?_)
    · subst ed
      have f4D := g4.out fD nD
      refine ⟨ys, s4 _ _ hD', small1000 (by omega), F4, ys ++ [y], ?_, (gr.trans g4 fun z hz => same_none s1 hz).put f4D, f4D, ?_, upd_same⟩
      · exact fun b o e => by
          rw [upd_ne (fun z => by rw [z, hD] at e; cases e)]
          exact s4 _ _ (s1 _ _ e)
      · rw [e2]
        exact RA.snoc (RA.mono g4.le _ _ ra) hR
    · subst ed
      refine ⟨F', ys, s1.trans s4, gr.step s4, fD, ?_, s4 _ _ hD'⟩
      rw [e2, List.append_nil]
      exact ra
  · rw [List.take_of_length_le (by omega)] at ra
    exact hd F' H' ys s1 gr fD ra hD'
end
end Pz

namespace Pz
open PySem PySem.Spec PyProof.Rows L2
/-! ### a list comprehension whose element may raise -/
/-- the end of a block, its exception passed on with the block's own env -/
def endX (M : Model) (A : Around) (E : Value → Shared → Prop) (use : Option (Value → Sem Unit)) (Q : Value → Shared → Prop) (acc : Value) (cenv : Env) (r : Result) (s' : Shared) : Prop := match r with
  | .ok f => compPost M A E use Q acc cenv.locals (.ok f) s'
  | .error x => ∃ m, s'.heap.Ns cenv.locals m ∧ ∀ h', Heap.SameBut cenv.locals s'.heap h' → wpAny M A (passOn "comprehension.variables-let-go" x cenv : Sem Value) (fun _ _ => False) E { s' with heap := h' }
theorem comprehension_endX {M : Model} {A : Around} {E : Value → Shared → Prop} {s : Shared} {env : Env} {e : Expr} {scope : Scope} {pos : Pos} {newAcc first : Sem Value} {g : Comprehension} {gs : List Comprehension} {cl : List (Str × Addr)} {use : Option (Value → Sem Unit)} {Q : Value → Shared → Prop}
    (hcl : clausesOf e = g :: gs) (hs : ∀ x, foldedSetIterable g.iter env x = pure x) (hclos : closureFor scope env = pure cl) (hkind : scope.kind = .function) (hnames : ∀ x ∈ scope.names, x.2 = .local → scope.names.lookup x.1 = some .local)
    (h : wpAny M A first (fun x s1 => wpAny M A (pyIter x) (fun it s2 => wpAny M A newAcc (fun acc s3 => wpAny M A (newFunctionEnv scope env.globals cl [] env.qual none .none (some env)) (fun cenv s4 =>
      codeAny M A (.compStart e 0 it acc { cenv with scope := relabel scope env }) (endX M A E use Q acc { cenv with scope := relabel scope env }) s4) E s3) E s2) E s1) E s) :
    wpAny M A (comprehension e scope env pos newAcc false first use) Q E s := by
  have same : ∀ {α : Type} {t : Sem α} {P P' : α → Shared → Prop} {u : Shared}, wpAny M A t P E u → (∀ a v, P a v → P' a v) → wpAny M A t P' E u := fun w k => wpAny_mono w k fun _ _ z => z
  unfold comprehension
  rw [hclos, hcl]
  refine wpAny_bind (same h fun x s1 h1 => wpAny_bind (wpAny_standAt (wpAny_bind (wpAny_of_eq (hs x) (wpAny_bind (wpAny_holding (same h1 fun it s2 h2 => ?_)))))))
  refine wpAny_standIf (wpAny_bind (same h2 fun acc s3 h3 => wpAny_bind (wpAny_pure (wpAny_bind (same h3 fun cenv s4 h4 => ?_)))))
  dsimp only
  have loc : ∀ x ∈ (scope.names.filter fun x => (x.2 == .local || x.2 == .cell) && x.1 != (".0" : Str)).reverse, x.2 = .local → Env.kindOf { cenv with scope := relabel scope env } x.1 = some .local := fun x hx hl =>
    lookup_relabel_local (hnames x (List.mem_filter.mp (List.mem_reverse.mp hx)).1 hl)
  have loc2 : ∀ x ∈ (scope.names.filter fun x => (x.2 == .local || x.2 == .cell) && x.1 != (".0" : Str)).reverse.drop 1 ++ (scope.names.filter fun x => (x.2 == .local || x.2 == .cell) && x.1 != (".0" : Str)).reverse.take 1,
      x.2 = .local → Env.kindOf { cenv with scope := relabel scope env } x.1 = some .local := fun x hx hl => (List.mem_append.mp hx).elim (fun k => loc x (List.mem_of_mem_drop k) hl) fun k => loc x (List.mem_of_mem_take k) hl
  refine wpAny_holding (wpAny_bind (wpAny_attempt (wpAny_holding (wpAny_run (codeAny_mono h4 fun r s' hr => ?_)))))
  cases r with
  | error x =>
    obtain ⟨m, hn, hr⟩ := hr
    exact wpAny_bind (wpAny_holding (wpAny_comp_letGo (cenv := { cenv with scope := relabel scope env }) hkind _ s' m loc hn fun h' m' _ hb => wpAny_mono (hr h' hb) (fun _ _ z => z.elim) fun _ _ z => z))
  | ok f =>
    cases use with
    | none =>
      obtain ⟨m, hn, hr⟩ := hr
      exact wpAny_bind (wpAny_holding (wpAny_comp_letGo (cenv := { cenv with scope := relabel scope env }) hkind _ s' m loc hn fun h' m' _ hb => wpAny_pure (hr h' hb)))
    | some u =>
      refine wpAny_bind (wpAny_rule (wpAny_bind (wpAny_holding (same hr fun _ s2 hq => ?_))))
      obtain ⟨m, hn, hq⟩ := hq
      exact wpAny_bind (wpAny_comp_letGo (cenv := { cenv with scope := relabel scope env }) hkind _ s2 m loc2 hn fun h' m' _ hb => wpAny_pure (hq h' hb))
/-- what a block's element may let out: what a call of it lets out -/
def EB (Xb : Cx) (Ex : XK) (e : Value) (s' : Shared) : Prop := ∃ pins σ H s, Inv Xb pins σ H s ∧ L2.CX Xb.prog Xb.w Xb.stack H s Ex e s'
theorem passes_EB {Xb : Cx} {Ex : XK} : Passes (L2.CX Xb.prog Xb.w) (Xb.wish (EB Xb Ex)) Ex := fun pins σ H s _ _ I c => ⟨pins, σ, H, s, I.unwish, c⟩
theorem frames_on {h h' B B' : Heap} : ∀ {l : List Env}, h.FunFrames B l → (∀ L ∈ frs l, h'.get? L = h.get? L) → (∀ L ∈ frs l, B.get? L = none → B'.get? L = none) → h'.FunFrames B' l
  | [], _, _, _ => trivial
  | env :: l, f, k, n => by
    obtain ⟨a, ⟨L, o, hf, hb, ho, hd⟩, r⟩ := f
    have hm : L ∈ frs (env :: l) := List.mem_filterMap.mpr ⟨env, List.mem_cons_self, hf⟩
    have sub : ∀ M ∈ frs l, M ∈ frs (env :: l) := fun M hM => by
      obtain ⟨e, he, q⟩ := List.mem_filterMap.mp hM
      exact List.mem_filterMap.mpr ⟨e, List.mem_cons_of_mem _ he, q⟩
    exact ⟨a, ⟨L, o, hf, n L hm hb, (k L hm).trans ho, hd⟩, frames_on r (fun M hM => k M (sub M hM)) fun M hM => n M (sub M hM)⟩
theorem note_frame {a : Value} {e e' : Env} (h : e.frame = e'.frame) : noteFrame a e = noteFrame a e' := by
  unfold noteFrame PySem.frameOf
  rw [h]
section
variable {X : Cx} {W : WX}
/-- the block's exception is noted, its names are let go, it is in the air of X -/
theorem block_err {pins : List (Addr × Obj)} {σ : L2.St} {H3 : Hp} {s3 s' : Shared} {scope : Scope} {ce : Env} {fp : List Addr} {use : Option (Value → Sem Unit)} {Qf : Value → Shared → Prop} {acc e : Value}
    (tk : Takes X W) (hst : X.stack = X.env :: X.outer) (hf : X.env.frame = some X.env.locals) (I3 : Inv X pins σ H3 s3) (f3 : ∀ b ∈ fp, FpOk X pins H3 b) (cL : ce.locals = s3.heap.objs.size) (cF : ce.frame = X.env.frame)
    (x : EB (X.blk s3 H3 scope ce fp) (fun cls d H' => W cls d σ H') e s') :
    notedBy (model X.prog X.w) X.A ce (fun e s'' => endX (model X.prog X.w) X.A X.xe use Qf acc ce (.error e) s'') e s' := by
  obtain ⟨pb, σb, Hb, sb, Ib, c⟩ := x
  have Ix : Inv X pins σ Hb sb := I3.call' (ch := fp) Ib.os Ib.base Ib.hok Ib.bare fun b hb => ⟨(f3 b hb).2.2.2.1, (f3 b hb).2.1, (f3 b hb).2.2.2.2.1, (f3 b hb).2.2.2.2.2⟩
  generalize hC : s3.heap.objs.size = C at cL
  have nC3 : Hb C = none := by rw [← cL]; exact Ib.free
  obtain ⟨f0, f1, f2, f3', f4, f5⟩ := I3.fpOk (H' := Hb) (b := C) (Nat.le_of_eq hC) nC3
  have nCs : C ∉ frs X.stack := by
    rw [hst]
    intro z
    obtain ⟨en, he, q⟩ := List.mem_filterMap.mp z
    rcases List.mem_cons.mp he with rfl | he
    · rw [hf] at q; exact f1 (Option.some.inj q).symm
    · exact f2 (List.mem_filterMap.mpr ⟨en, he, q⟩)
  obtain ⟨mC, hnC, _⟩ := Ib.loc
  have hnC : sb.heap.Ns ce.locals mC := hnC
  rw [cL] at hnC
  obtain ⟨a, B0, H0, cls, d, rfl, fl, hok, ub, na, os, ag, hE⟩ := c
  have nsC : s'.heap.Ns C mC ∧ H0 C = none := by
    obtain ⟨oC, es, ep, hoC, hdC, r⟩ := hnC
    exact ⟨⟨oC, es, ep, fl.1 _ _ (ub.keep C oC hoC nC3 nCs), hdC, r⟩, ub.free C oC hoC nC3⟩
  have c' : L2.CX X.prog X.w X.stack Hb sb (fun cls d H' => W cls d σ H' ∧ H' C = none) (.ref a) s' := ⟨a, B0, H0, cls, d, rfl, fl, hok, ub, na, os, ag, hE, nsC.2⟩
  obtain ⟨a', B, sI, pI, σI, HI, cls', d', ea, JI, nb, up, sky, na', os', ag', eσ, hw, nCI⟩ := XE.of_call (W := fun cls d σ' H' => σ' = σ ∧ W cls d σ' H' ∧ H' C = none) Ix (fun cls d H' h => ⟨rfl, h⟩) c'
  cases ea
  subst eσ
  have hfr : X.A.frames = some (X.env :: X.outer) := by rw [← hst]; exact Ix.ok.frames
  unfold notedBy
  rw [note_frame cF]
  have fin : ∀ h1, HandSPX.HeldZ B (X.env :: X.outer) a (Zc cls' d') X.env.locals h1 → s'.heap.UpToSlots h1 → endX (model X.prog X.w) X.A X.xe use Qf acc ce (.error (.ref a)) { s' with heap := h1 } := by
    intro h1 hh up1
    refine ⟨mC, by rw [cL]; exact up1.ns nsC.1, fun h' sbC => ?_⟩
    rw [cL] at sbC
    obtain ⟨k1, k2, k3, oe, vs, T, oT, ts, he, hz, hd, hv1, hbT, hTe, hT, hdT, h3⟩ := hh
    obtain ⟨oC, es, ep, hoC, hdC, _⟩ := up1.ns nsC.1
    have naC : a ≠ C := fun z => by rw [z, hoC] at he; cases he; rw [hdC] at hd; cases hd
    have nTC : T ≠ C := fun z => by rw [z, hoC] at hT; cases hT; rw [hdC] at hdT; cases hdT
    have old : ∀ b, b ≠ C → h'.get? b = h1.get? b := fun b hb => sbC.2 b hb
    obtain ⟨B', g1, g2⟩ := restrict B fun b => !decide (b = C)
    have gne : ∀ b, b ≠ C → B'.get? b = B.get? b := fun b hb => g1 b (by simp [hb])
    have gsub : ∀ b o, B'.get? b = some o → b ≠ C ∧ B.get? b = some o := fun b o q => by
      by_cases z : b = C
      · rw [g2 b (by simp [z])] at q; cases q
      · exact ⟨z, (gne b z).symm.trans q⟩
    obtain ⟨GI, i1, i2⟩ := restrict sI.heap fun b => !decide (b = C)
    have ine : ∀ b, b ≠ C → GI.get? b = sI.heap.get? b := fun b hb => i1 b (by simp [hb])
    have isub : ∀ b o, GI.get? b = some o → b ≠ C ∧ sI.heap.get? b = some o := fun b o q => by
      by_cases z : b = C
      · rw [i2 b (by simp [z])] at q; cases q
      · exact ⟨z, (ine b z).symm.trans q⟩
    have nfr : ∀ L ∈ frs (X.env :: X.outer), L ≠ C := fun L hL z => nCs (by rw [hst, ← z]; exact hL)
    have st' : B'.StaysIn h' := fun b o q => by
      obtain ⟨z, q⟩ := gsub b o q
      exact (old b z).trans (k1 b o q)
    have ff' : h'.FunFrames B' (X.env :: X.outer) := frames_on k3 (fun L hL => old L (nfr L hL)) fun L hL q => (gne L (nfr L hL)).trans q
    have tr' : HandSPX.TracedZ h' B' a (Zc cls' d') (rawInt X.env.locals) := ⟨oe, vs, T, oT, ts, (old a naC).trans he, hz, hd, hv1, (gne T nTC).trans hbT, hTe, (old T nTC).trans hT, hdT, h3⟩
    unfold PySem.passOn
    refine wpAny_bind (wpAny_field ((old a naC).trans he) hd hv1 ?_)
    rw [if_neg (show ¬ ((Value.ref T == Value.none) = true) from by simp)]
    rw [cF, hf]
    refine wpAny_bind (HandSPX.setFlight_anyZ (fr := some X.env.locals) st' ff' tr' fun h'' a1 a2 a3 a4 => wpAny_throw (tk _ _ ?_))
    have up' : GI.UpToSlots h'' := fun b o q nf => by
      obtain ⟨z, q⟩ := isub b o q
      obtain ⟨sl, q1⟩ := up b o q nf
      obtain ⟨sl2, q2⟩ := up1 b _ q1 nf
      obtain ⟨sl3, q3⟩ := a4 b _ ((old b z).trans q2) nf
      exact ⟨sl3, q3⟩
    have J0 : Inv X ([] : List (Addr × Obj)) σI HI sI := (Inv.unpinned (pins := []) (pl := pI) (by simpa using JI))
    have J1 : Inv X [] σI HI { sI with heap := GI } := J0.turned (t' := sI.toks) (it := C) (fun b o hb q => (ine b hb).trans q) nCI f1 f3' f4 fun p hp => f5 p (List.mem_append_left _ (by simpa using hp))
    refine ⟨a, B', { sI with heap := GI }, [], σI, HI, cls', d', rfl, J1, fun b o q hb => ?_, up', .inr (.inr ?_), na', os', ag', hw⟩
    · obtain ⟨z, q⟩ := isub b o q
      exact (gne b z).trans (nb b o q hb)
    · rw [hst]
      exact ⟨a1, (gne a naC).trans k2, a2, a3⟩
  rw [hst] at sky
  rcases sky with ⟨hB, hn, hl, oe, vs, he, hz, hd, hv1⟩ | fly | hh
  · exact HandSPX.look_newZ Zc.steady hfr hl hf he hB hn hd hv1 hz fin
  · exact HandSPX.looks_onZ Zc.steady hfr hf fly fin
  · exact HandSPX.againZ hf hh.2.2.2 (fin s'.heap hh (Heap.UpToSlots.refl _))
end
section
variable {X : Cx} {W : WX}
theorem lc_coreX {pins : List (Addr × Obj)} {s : Shared} {σ : L2.St} {H : Hp} {Q : VK} {elt tg iter : Expr} {ifs : List Expr} {scope : Scope} {own : List (Str × Nat)} {pos pos' : Pos} {wi : TI} {g : TG} {tt : TT} {te : XK → TE} {use : Option (Value → Sem Unit)} {Qf : Value → Shared → Prop}
    (tk : Takes X W) (hst : X.stack = X.env :: X.outer) (hf : X.env.frame = some X.env.locals)
    (hc : X.calm = true) (hN : X.N.Nodup) (I : Inv X pins σ H s) (hi : PI X tg iter wi) (ok : BlkOk X.N X.env.scope scope own)
    (hg : ∀ (s : Shared) (H : Hp) (C : Addr) (cl : List (Str × Addr)) (fp : List Addr), PG (X.blk s H scope (compEnvC scope cl C X.env) fp) tg g) (ht : ∀ (s : Shared) (H : Hp) (C : Addr) (cl : List (Str × Addr)) (fp : List Addr), PTs (X.blk s H scope (compEnvC scope cl C X.env) fp) ifs tt)
    (he : ∀ (Ex : XK) (s : Shared) (H : Hp) (C : Addr) (cl : List (Str × Addr)) (fp : List Addr), PE ((X.blk s H scope (compEnvC scope cl C X.env) fp).wish (EB (X.blk s H scope (compEnvC scope cl C X.env) fp) Ex)) elt (te Ex)) (hs : ∀ x, foldedSetIterable iter X.env x = pure x)
    (h : tLc wi g tt (te fun cls d H' => W cls d σ H') (own.map (·.2)) σ H Q)
    (hRR : ∀ D C s' m H', Inv X pins σ H' s' → Q (.ref D) H' → s'.heap.Ns C m → FpOk X pins H' C → compPost (model X.prog X.w) X.A X.xe use Qf (.ref D) C (.ok .next) s') :
    wpAny (model X.prog X.w) X.A (comprehension (.ListComp elt [⟨tg, iter, ifs, 0⟩] scope pos) scope X.env pos' (newList []) false (eval iter X.env) use) Qf X.xe s := by
  have hfree : ∀ y ∈ scope.names, y.2 = .free → ∃ c, X.env.cells.lookup y.1 = some c := fun y hy e => by
    rcases ok.free y hy e with k | k
    · exact I.ok.has _ (.inl k)
    · exact I.ok.has _ (.inr k)
  refine comprehension_endX (use := use) rfl hs (closure_ok hfree) ok.kind (fun y hy e => by rw [ok.uniq y hy, e])
    (thn (hi.run pins s σ H _ I h) fun xv s1 hx => thn hx fun itv s2 h2 => ?_)
  obtain ⟨it, fp, tn, J, H2, e, I2, T, st2, f2, q⟩ := h2
  subst e
  refine wpAny_newObj_type (newEnv_comp ?_) (by show 0 ≤ sizeLine; decide)
  generalize hD : s2.heap.objs.size = D
  have hDn : H2 D = none := I2.hok.fresh (Nat.le_of_eq hD)
  obtain ⟨Wt, ⟨m0, w0⟩, turn⟩ := q D hDn
  generalize hs3 : ({ s2 with heap := s2.heap.push { cls := .type "list", data := .seq ([] : List Value).toArray } } : Shared) = s3
  have I3 : Inv X pins σ (upd H2 D (.lst [])) s3 := by
    rw [← hs3]
    refine I2.laid (t' := s2.toks) (fun b o e => Heap.get?_push_of_some _ e) (Nat.le_of_eq hD) ⟨Nat.zero_le _, [], 0, .nil, ?_⟩
    rw [← hD]
    exact Heap.get?_push_size _ rfl
  have h3 : s3.heap = s2.heap.push { cls := .type "list", data := .seq ([] : List Value).toArray } := by rw [← hs3]
  have sz : ∀ b ∈ fp, b < s2.heap.objs.size := fun b hb => by
    obtain ⟨o, e, _⟩ := T.obj _ _ st2 b hb
    exact Heap.lt_size e
  have f3 : ∀ b ∈ fp, FpOk X pins (upd H2 D (.lst [])) b ∧ b < s3.heap.objs.size := fun b hb => by
    have hlt := sz b hb
    refine ⟨⟨?_, (f2 b hb).2⟩, by rw [h3, Heap.size_push]; exact Nat.lt_succ_of_lt hlt⟩
    rw [upd_ne (by rw [← hD]; exact Nat.ne_of_lt hlt)]
    exact (f2 b hb).1
  have st3 : tn 0 s3.heap := T.keep _ _ _ st2 fun b _ o e => by rw [h3]; exact Heap.get?_push_of_some _ e
  have I4 := block_start I3 ok hN f3
  have pg := hg s3 (upd H2 D (.lst [])) s3.heap.objs.size (cellsFrom (s3.heap.objs.size + 1) scope.names (cloFrom X.env.cells scope.names [])) fp
  have pt := ht s3 (upd H2 D (.lst [])) s3.heap.objs.size (cellsFrom (s3.heap.objs.size + 1) scope.names (cloFrom X.env.cells scope.names [])) fp
  have pe := he (fun cls d H' => W cls d σ H') s3 (upd H2 D (.lst [])) s3.heap.objs.size (cellsFrom (s3.heap.objs.size + 1) scope.names (cloFrom X.env.cells scope.names [])) fp
  have cF : (compEnvC scope (cellsFrom (s3.heap.objs.size + 1) scope.names (cloFrom X.env.cells scope.names [])) s3.heap.objs.size X.env).frame = X.env.frame := rfl
  show codeAny _ _ (.compStart (.ListComp elt [⟨tg, iter, ifs, 0⟩] scope pos) 0 (.ref it) (.ref D) (compEnvC scope (cellsFrom (s3.heap.objs.size + 1) scope.names (cloFrom X.env.cells scope.names [])) s3.heap.objs.size X.env)) (endX (model X.prog X.w) X.A X.xe use Qf (.ref D) (compEnvC scope (cellsFrom (s3.heap.objs.size + 1) scope.names (cloFrom X.env.cells scope.names [])) s3.heap.objs.size X.env)) { s3 with heap := pushCells (s3.heap.push { cls := .type "dict", data := .dict #[] }) scope.names }
  have nfp : ∀ b ∈ fp, (upd H2 D (.lst [])) b = none := fun b hb => (f3 b hb).1.1
  generalize hce : compEnvC scope (cellsFrom (s3.heap.objs.size + 1) scope.names (cloFrom X.env.cells scope.names [])) s3.heap.objs.size X.env = ce at I4 pg pt pe cF ⊢
  have cL : ce.locals = s3.heap.objs.size := by subst hce; rfl
  generalize hH3 : upd H2 D (.lst []) = H3 at I3 I4 pg pt pe w0 nfp f3
  generalize hs4 : ({ s3 with heap := pushCells (s3.heap.push { cls := .type "dict", data := .dict #[] }) scope.names } : Shared) = s4 at I4 ⊢
  have st4 : tn 0 s4.heap := T.keep _ _ _ st3 fun b _ o e => by rw [← hs4]; exact pushCells_keeps _ _ _ _ (Heap.get?_push_of_some _ e)
  have stat : ∀ {σ' : L2.St} {H' : Hp} {s' : Shared}, Inv (X.blk s3 H3 scope ce fp) [] σ' H' s' → (∀ b ∈ fp, H' b = none) → ∀ b ∈ fp, FpOk (X.blk s3 H3 scope ce fp) [] H' b := fun {σ' H' s'} I' hn b hb =>
    ⟨hn b hb, (I'.ok.exf b hb).1, I'.ok.exfs b hb, .inl hb, fun x c e => (I'.ok.exf b hb).2 x c e, fun p hp => absurd (show p ∈ ([] : List (Addr × Obj)) ++ [] from hp) (by simp)⟩
  have loop : codeAny (model X.prog X.w) X.A (.compLoop (.ListComp elt [⟨tg, iter, ifs, 0⟩] scope pos) 0 (.ref it) (.ref D) ce) (endX (model X.prog X.w) X.A X.xe use Qf (.ref D) ce) s4 := by
    refine compLoop_any (fun n s' => ∃ i H', Inv (X.blk s3 H3 scope ce fp) [] (wipe σ (own.map (·.2))) H' s' ∧ tn i s'.heap ∧ (∀ b ∈ fp, H' b = none) ∧ Wt i n H') ?_ m0 ⟨0, H3, I4, st4, nfp, w0⟩
    rintro n s5 ⟨i, H5, I5, st5, n5, w5⟩
    rcases turn i n H5 w5 with ⟨stop, qq⟩ | ⟨go, Nx, hNx, step⟩
    · have td := T.done (X.blk s3 H3 scope ce fp) rfl rfl rfl hc i [] s5 _ H5 (fun _ _ => False) I5 (stat I5 n5) st5 stop
      refine thnF td fun r s6 ⟨hr, I6⟩ => ?_
      subst hr
      have I7 : Inv X pins σ H5 s6 := I3.call' (ch := fp) I6.os I6.base I6.hok I6.bare fun b hb => ⟨(f3 b hb).1.2.2.2.1, (f3 b hb).1.2.1, (f3 b hb).1.2.2.2.2.1, (f3 b hb).1.2.2.2.2.2⟩
      have nC : H5 s3.heap.objs.size = none := by
        have z : H5 ce.locals = none := I6.free
        rw [cL] at z
        exact z
      obtain ⟨m, hn, _⟩ := I6.loc
      have hn : s6.heap.Ns ce.locals m := hn
      rw [cL] at hn
      have := hRR D s3.heap.objs.size s6 m H5 I7 qq hn (I3.fpOk (Nat.le_refl _) nC)
      rw [← cL] at this
      exact this
    · have ti := T.item (X.blk s3 H3 scope ce fp) rfl rfl rfl hc i [] s5 _ H5 (fun _ _ => False) I5 (stat I5 n5) st5 go
      refine thnF ti fun r s6 ⟨u, hr, h6⟩ => ?_
      subst hr
      refine thnF h6 fun _ s7 ⟨x, H7, I7, r7, y7, st7, n7⟩ => ?_
      have I7' := I7.pinned (stat I7 n7) (T.obj _ _ st7)
      refine thnF (pg.run _ s7 _ H7 x u _ I7' r7 (step x H7 y7)) fun _ s8 ⟨σ8, H8, I8, hw8, q8⟩ => ?_
      refine thnF (pt.run _ s8 σ8 H8 _ I8 q8) fun b s9 ⟨H9, I9, q9⟩ => ?_
      have fin : ∀ {s' : Shared} {H' : Hp}, Inv (X.blk s3 H3 scope ce fp) ([] ++ pinsAt fp s7.heap) σ8 H' s' → Nx H' → ∃ m, m < n ∧ ∃ i H', Inv (X.blk s3 H3 scope ce fp) [] (wipe σ (own.map (·.2))) H' s' ∧ tn i s'.heap ∧ (∀ b ∈ fp, H' b = none) ∧ Wt i m H' := fun {s' H'} I' nx => by
        obtain ⟨m', hm, w'⟩ := hNx H' nx
        have pin' : ∀ b ∈ fp, ∀ o, s7.heap.get? b = some o → s'.heap.get? b = some o ∧ H' b = none := fun b hb o e =>
          let z := I'.pin (b, o) (List.mem_append_right _ (List.mem_append_right _ (mem_pinsAt hb e)))
          ⟨z.1, z.2.1⟩
        have hl : (wipe σ (own.map (·.2))).length = σ8.length := by rw [← hw8, wipe_length]
        refine ⟨m', hm, i + 1, H', (I'.unpinned (pins := [])).weak hl (fun j v e => ?_), T.keep _ _ _ st7 fun b hb o e => (pin' b hb o e).1, fun b hb => ?_, w'⟩
        · rw [← hw8] at e
          exact (wipe_some e).1
        · obtain ⟨o, e, _⟩ := T.obj _ _ st7 b hb
          exact (pin' b hb o e).2
      cases b with
      | false =>
        simp only [Bool.false_eq_true, if_false] at q9 ⊢
        exact fin I9 q9
      | true =>
        simp only [if_true] at q9 ⊢
        refine wpAny_mono (pe.run _ s9 σ8 H9 _ (I9.wish _) q9) (fun z s10 hz => ?_) (fun e s10 x => block_err tk hst hf I3 (fun b hb => (f3 b hb).1) cL cF x)
        obtain ⟨yv, H10, I10, r10, acc, hD10, hz10, nx⟩ := hz
        exact app_ok (X := X.blk s3 H3 scope ce fp) I10.unwish hD10 hz10 r10 fun s11 I11 => fin I11 nx
  exact codeAny_compStart_list loop (T.self X.A 0 _ _ _ st4 loop)
/-- the reading: what the element lets out, X takes -/
def tLcX (W : WX) (wi : TI) (g : TG) (tt : TT) (te : XK → TE) (vs : List Nat) : TE := fun σ H Q => tLc wi g tt (te fun cls d H' => W cls d σ H') vs σ H Q
theorem pe_lcX {elt tg iter : Expr} {ifs : List Expr} {scope : Scope} {own : List (Str × Nat)} {pos : Pos} {wi : TI} {g : TG} {tt : TT} {te : XK → TE} (tk : Takes X W) (hst : X.stack = X.env :: X.outer) (hf : X.env.frame = some X.env.locals) (hc : X.calm = true) (hN : X.N.Nodup) (hi : PI X tg iter wi) (ok : BlkOk X.N X.env.scope scope own)
    (hg : ∀ (s : Shared) (H : Hp) (C : Addr) (cl : List (Str × Addr)) (fp : List Addr), PG (X.blk s H scope (compEnvC scope cl C X.env) fp) tg g) (ht : ∀ (s : Shared) (H : Hp) (C : Addr) (cl : List (Str × Addr)) (fp : List Addr), PTs (X.blk s H scope (compEnvC scope cl C X.env) fp) ifs tt)
    (he : ∀ (Ex : XK) (s : Shared) (H : Hp) (C : Addr) (cl : List (Str × Addr)) (fp : List Addr), PE ((X.blk s H scope (compEnvC scope cl C X.env) fp).wish (EB (X.blk s H scope (compEnvC scope cl C X.env) fp) Ex)) elt (te Ex)) (hs : ∀ x, foldedSetIterable iter X.env x = pure x := by intro _; rfl) :
    PE X (.ListComp elt [⟨tg, iter, ifs, 0⟩] scope pos) (tLcX W wi g tt te (own.map (·.2))) := by
  refine ⟨fun pins s σ H Q I h => ?_⟩
  rw [eval_ListComp]
  refine lc_coreX tk hst hf hc hN I hi ok hg ht he hs h fun D C s' m H' I' q hn f => ⟨m, hn, fun h'' sb => ?_⟩
  obtain ⟨f0, f1, f2, f3, f4, f5⟩ := f
  exact ⟨.ref D, H', I'.turned (t' := s'.toks) (fun b o hb e => (sb.2 b hb).trans e) f0 f1 f3 f4 f5, rfl, q⟩
theorem ps_setLcX {i : Nat} {y : Str} {py : Pos} {elt tg iter : Expr} {ifs : List Expr} {scope : Scope} {own : List (Str × Nat)} {pos spos : Pos} {wi : TI} {g : TG} {tt : TT} {te : XK → TE} (tk : Takes X W) (hst : X.stack = X.env :: X.outer) (hf : X.env.frame = some X.env.locals) (hc : X.calm = true) (hN : X.N.Nodup) (hy : X.N[i]? = some y) (hyl : X.env.scope.names.lookup y = some .local)
    (hsw : swapsWith (.ListComp elt [⟨tg, iter, ifs, 0⟩] scope pos) (some (.Name y py)) spos.line X.env = pure true) (hi : PI X tg iter wi) (ok : BlkOk X.N X.env.scope scope own)
    (hg : ∀ (s : Shared) (H : Hp) (C : Addr) (cl : List (Str × Addr)) (fp : List Addr), PG (X.blk s H scope (compEnvC scope cl C X.env) fp) tg g) (ht : ∀ (s : Shared) (H : Hp) (C : Addr) (cl : List (Str × Addr)) (fp : List Addr), PTs (X.blk s H scope (compEnvC scope cl C X.env) fp) ifs tt)
    (he : ∀ (Ex : XK) (s : Shared) (H : Hp) (C : Addr) (cl : List (Str × Addr)) (fp : List Addr), PE ((X.blk s H scope (compEnvC scope cl C X.env) fp).wish (EB (X.blk s H scope (compEnvC scope cl C X.env) fp) Ex)) elt (te Ex)) (hs : ∀ x, foldedSetIterable iter X.env x = pure x := by intro _; rfl) :
    PS X (.Assign [.Name y py] (.ListComp elt [⟨tg, iter, ifs, 0⟩] scope pos) spos) (tAsg (tLcX W wi g tt te (own.map (·.2))) (gName i)) := by
  refine ⟨fun pins s σ H D I h => ?_⟩
  rw [exec_Assign_Name_used _ _ _ _ hsw]
  refine wpAny_bind (wpAny_standAt (wpAny_bind ?_))
  show wpAny _ X.A (do let _ ← comprehension (.ListComp elt [⟨tg, iter, ifs, 0⟩] scope pos) scope X.env (firstIterPos [⟨tg, iter, ifs, 0⟩] pos) (newList []) false (eval iter X.env) (some (assign (.Name y py) X.env))) _ _ s
  have h : tLcX W wi g tt te (own.map (·.2)) σ H (fun x H1 => gName i x σ H1 D.nx) := h
  refine wpAny_bind (thn (lc_coreX (Qf := fun _ s' => SP X pins D .next s') tk hst hf hc hN I hi ok hg ht he hs h fun L C s' m H' I' q hn f => ?_) fun _ s' hq => wpAny_pure (wpAny_pure hq))
  show wpAny _ _ (assign (.Name y py) X.env (.ref L)) _ _ _
  refine wpAny_assign_Name (store_ok2 (v := V.ref L) I' hN hy (.inl hyl) rfl (fun s2 I2 ⟨a, sb, ha⟩ => ?_) (.inr hyl))
  obtain ⟨f0, f1, f2, f3, f4, f5⟩ := f
  have haC : C ≠ a := by
    rcases ha with z | z
    · rw [z]; exact f1
    · exact fun e => f4 y a z e.symm
  refine ⟨m, hn.sameBut sb haC, fun h3 sb3 => ?_⟩
  exact ⟨_, H', I2.turned (t' := s2.toks) (fun b o hb e => (sb3.2 b hb).trans e) f0 f1 f3 f4 f5, q⟩
end
end Pz

namespace Pz
open PySem PySem.Spec PyProof.Rows L2
/-! ### a dict comprehension of two clauses whose keys are tuples -/
/-- its source -/
abbrev dc2 (kx vx ta sa tb sb : Expr) (fa fb : List Expr) (scope : Scope) (pos : Pos) : Expr := .DictComp kx vx [⟨ta, sa, fa, 0⟩, ⟨tb, sb, fb, 0⟩] scope pos
theorem dc2_turn0 (kx vx ta sa tb sb : Expr) (fa fb : List Expr) (scope : Scope) (pos : Pos) (it : Value) (D : Addr) (en : Env) :
    compTurn (dc2 kx vx ta sa tb sb fa fb scope pos) 0 it (.ref D) en = (do
      standAt sa.pos
      match ← pyNext it with
      | none => pure (.done .next)
      | some item =>
        letOwnedTupleGo ta it item
        assign ta en item
        let mut good := true
        for f in fa do
          if good then good ← isTrue f en (eval f en)
        if good then
          let src ← eval sb en
          standAt sb.pos
          let src ← foldedSetIterable sb en src
          let _ ← runOwn (.compStart (dc2 kx vx ta sa tb sb fa fb scope pos) 1 (← holding [src] (pyIter src)) (.ref D) en) en
        again (.compLoop (dc2 kx vx ta sa tb sb fa fb scope pos) 0 it (.ref D) en)) := by rfl
theorem dc2_turn1 (kx vx ta sa tb sb : Expr) (fa fb : List Expr) (scope : Scope) (pos : Pos) (it : Value) (D : Addr) (en : Env) :
    compTurn (dc2 kx vx ta sa tb sb fa fb scope pos) 1 it (.ref D) en = (do
      standAt sb.pos
      match ← pyNext it with
      | none => pure (.done .next)
      | some item =>
        letOwnedTupleGo tb it item
        assign tb en item
        let mut good := true
        for f in fb do
          if good then good ← isTrue f en (eval f en)
        if good then
          (do
            let kk ← eval kx en
            let ww ← holding [kk] (eval vx en)
            standAt { kx.pos with endLine := vx.pos.endLine, endCol := vx.pos.endCol }
            holding [kk, ww] (dictSet D kk ww))
        again (.compLoop (dc2 kx vx ta sa tb sb fa fb scope pos) 1 it (.ref D) en)) := by rfl
section
variable {pr : Program} {wd : World} {ar : Around} {Res : Result → Shared → Prop} {st : Shared} {kx vx ta sa tb sb : Expr} {fa fb : List Expr} {scope : Scope} {pos : Pos} {it : Value} {D : Addr} {en : Env}
abbrev noted (pr : Program) (wd : World) (ar : Around) (en : Env) (Res : Result → Shared → Prop) : Value → Shared → Prop := notedBy (model pr wd) ar en fun x u => Res (.error x) u
abbrev testsOf (fs : List Expr) (en : Env) : Sem Bool := forIn fs true fun f good => if good = true then do let c ← isTrue f en (eval f en); pure (ForInStep.yield c) else pure (ForInStep.yield good)
theorem keepE {α : Type} {c : Sem α} {P P' : α → Shared → Prop} {E : Value → Shared → Prop} {u : Shared} (h : wpAny (model pr wd) ar c P E u) (k : ∀ a v, P a v → P' a v) : wpAny (model pr wd) ar c P' E u := wpAny_mono h k fun _ _ z => z
theorem dc2_loop0 (hfold : ∀ x, foldedSetIterable sb en x = pure x) (Iv : Nat → Shared → Prop)
    (turn : ∀ n u, Iv n u → wpAny (model pr wd) ar (pyNext it) (fun o u1 => match o with
      | none => Res (.ok .next) u1
      | some item => wpAny (model pr wd) ar (letOwnedTupleGo ta it item) (fun _ u2 => wpAny (model pr wd) ar (assign ta en item) (fun _ u3 => wpAny (model pr wd) ar (testsOf fa en) (fun good u4 =>
            if good = true then wpAny (model pr wd) ar (eval sb en) (fun src u5 => wpAny (model pr wd) ar (pyIter src) (fun it1 u6 =>
              codeAny (model pr wd) ar (.compStart (dc2 kx vx ta sa tb sb fa fb scope pos) 1 it1 (.ref D) en) (fun o2 u7 => match o2 with
                | .ok _ => ∃ m, m < n ∧ Iv m u7
                | .error _ => False) u6) (noted pr wd ar en Res) u5) (noted pr wd ar en Res) u4
            else ∃ m, m < n ∧ Iv m u4) (noted pr wd ar en Res) u3) (noted pr wd ar en Res) u2) (noted pr wd ar en Res) u1) (noted pr wd ar en Res) u)
    (n : Nat) (h : Iv n st) : codeAny (model pr wd) ar (.compLoop (dc2 kx vx ta sa tb sb fa fb scope pos) 0 it (.ref D) en) Res st := by
  refine codeAny_loop rfl Iv (fun n u hu => ?_) n h
  show wpAny _ ar ((compTurn (dc2 kx vx ta sa tb sb fa fb scope pos) 0 it (.ref D) en).onRaise fun x => do noteFrame x en; theTreesLotGoes x) _ _ u
  refine wpAny_noted ?_
  rw [dc2_turn0]
  refine wpAny_bind (wpAny_standAt (wpAny_bind (keepE (turn n u hu) fun o u1 h1 => ?_)))
  cases o with
  | none => exact wpAny_pure h1
  | some item =>
    refine wpAny_bind (keepE h1 fun _ u2 h2 => wpAny_bind (keepE h2 fun _ u3 h3 => wpAny_bind (keepE h3 fun good u4 h4 => ?_)))
    cases good with
    | false => exact wpAny_pure ⟨rfl, h4⟩
    | true =>
      refine wpAny_bind (keepE h4 fun src u5 h5 => wpAny_bind (wpAny_standAt (wpAny_bind (wpAny_of_eq (hfold src) (wpAny_bind (wpAny_holding (keepE h5 fun it1 u6 h6 => ?_)))))))
      refine wpAny_bind (wpAny_runOwn ?_)
      rw [Around.mark_none]
      refine codeAny_mono h6 fun o2 u7 h7 => ?_
      cases o2 with
      | error e => exact h7.elim
      | ok fl =>
        first
          | exact wpAny_pure ⟨rfl, h7⟩
          | exact wpAny_bind (wpAny_pure (wpAny_pure ⟨rfl, h7⟩))
theorem dc2_loop1 (Iv : Nat → Shared → Prop)
    (turn : ∀ n u, Iv n u → wpAny (model pr wd) ar (pyNext it) (fun o u1 => match o with
      | none => Res (.ok .next) u1
      | some item => wpAny (model pr wd) ar (letOwnedTupleGo tb it item) (fun _ u2 => wpAny (model pr wd) ar (assign tb en item) (fun _ u3 => wpAny (model pr wd) ar (testsOf fb en) (fun good u4 =>
            if good = true then wpAny (model pr wd) ar (eval kx en) (fun kk u5 => wpAny (model pr wd) ar (eval vx en) (fun ww u6 => wpAny (model pr wd) ar (dictSet D kk ww) (fun _ u7 => ∃ m, m < n ∧ Iv m u7)
              (noted pr wd ar en Res) u6) (noted pr wd ar en Res) u5) (noted pr wd ar en Res) u4
            else ∃ m, m < n ∧ Iv m u4) (noted pr wd ar en Res) u3) (noted pr wd ar en Res) u2) (noted pr wd ar en Res) u1) (noted pr wd ar en Res) u)
    (n : Nat) (h : Iv n st) : codeAny (model pr wd) ar (.compLoop (dc2 kx vx ta sa tb sb fa fb scope pos) 1 it (.ref D) en) Res st := by
  refine codeAny_loop rfl Iv (fun n u hu => ?_) n h
  show wpAny _ ar ((compTurn (dc2 kx vx ta sa tb sb fa fb scope pos) 1 it (.ref D) en).onRaise fun x => do noteFrame x en; theTreesLotGoes x) _ _ u
  refine wpAny_noted ?_
  rw [dc2_turn1]
  refine wpAny_bind (wpAny_standAt (wpAny_bind (keepE (turn n u hu) fun o u1 h1 => ?_)))
  cases o with
  | none => exact wpAny_pure h1
  | some item =>
    refine wpAny_bind (keepE h1 fun _ u2 h2 => wpAny_bind (keepE h2 fun _ u3 h3 => wpAny_bind (keepE h3 fun good u4 h4 => ?_)))
    cases good with
    | false => exact wpAny_pure ⟨rfl, h4⟩
    | true => exact wpAny_bind (wpAny_bind (keepE h4 fun kk u5 h5 => wpAny_bind (wpAny_holding (keepE h5 fun ww u6 h6 => wpAny_bind (wpAny_standAt (wpAny_holding (keepE h6 fun _ u7 h7 => wpAny_pure ⟨rfl, h7⟩)))))))
theorem dc2_start1 (h0 : codeAny (model pr wd) ar (.compLoop (dc2 kx vx ta sa tb sb fa fb scope pos) 1 it (.ref D) en) Res st)
    (h : wpAny (model pr wd) ar (pyIter it) (fun i2 u => codeAny (model pr wd) ar (.compLoop (dc2 kx vx ta sa tb sb fa fb scope pos) 1 i2 (.ref D) en) Res u) (noted pr wd ar en Res) st) :
    codeAny (model pr wd) ar (.compStart (dc2 kx vx ta sa tb sb fa fb scope pos) 1 it (.ref D) en) Res st := by
  refine codeAny_of_tree ?_
  show wpAny _ _ ((compStart (dc2 kx vx ta sa tb sb fa fb scope pos) 1 it (.ref D) en).onRaise fun x => do noteFrame x en; standAt theWindowsPlace) _ _ st
  refine wpAny_notedAt ?_
  unfold compStart
  show wpAny _ _ (ask >>= _) _ _ st
  refine wpAny_bind (wpAny_askSetting (wpAny_ite ?_))
  split
  · first
      | exact wpAny_bind (wpAny_pure (wpAny_pure ⟨rfl, h0⟩))
      | exact wpAny_pure ⟨rfl, h0⟩
  · first
      | exact wpAny_bind (wpAny_rule (wpAny_bind (wpAny_standAt (wpAny_bind (keepE h fun i2 u h' => wpAny_pure ⟨rfl, h'⟩)))))
      | (refine wpAny_bind (wpAny_rule ?_); show wpAny _ _ (standAt sb.pos >>= _) _ _ st; exact wpAny_bind (wpAny_standAt (wpAny_bind (keepE h fun i2 u h' => wpAny_pure ⟨rfl, h'⟩))))
end
/-- d[k] = v by a comprehension, k a tuple -/
theorem dictSetT {X : Cx} {pins : List (Addr × Obj)} {σ : L2.St} {H : Hp} {s : Shared} {E : Value → Shared → Prop} {D b : Addr} {kvs : List (List Key × V)} {k : List Key} {v : V} {r : Value} {Q : Unit → Shared → Prop} (hu : X.A.units + 1 < cLine) (I : Inv X pins σ H s)
    (hD : H D = some (.dT kvs)) (l : kvs.length < sizeLine) (hb : H b = some (.tup (k.map kV))) (rv : RelV v r) (h : ∀ s', Inv X pins σ (upd H D (.dT (putK kvs k v))) s' → Q () s') : wpAny (model X.prog X.w) X.A (dictSet D (.ref b) r) Q E s := by
  obtain ⟨z, hs, xs, rel, dd⟩ := dt_of I.hok hD
  have zx : xs.length ≤ sizeLine := by rw [← Paired.length rel]; exact z
  have zl : (putK kvs k v).length ≤ sizeLine := by have := length_putK kvs k v; omega
  refine wpAny_dictSet_heap (hsz := zx) (show X.A.units < cLine by omega) (key_of I.hok hb) dd fun h2 d2 sb => h _ ?_
  obtain ⟨o, es, ep, q1, q2, q3, q4, _, q5⟩ := d2
  refine d_write I (by rw [hD]; exact True.intro) sb ⟨o, q1⟩ ⟨zl, hs, _, (rel.put k hb rv).keeps fun c ys ec => ?_, o, es, ep, q1, q2, q3, q4, q5⟩
  rw [upd_ne (ne_of ec hD fun z => nomatch z)]
  exact ec
section
variable {X : Cx}
/-- {k: v for ta in sa if .. for tb in sb if ..}, the keys tuples of ints and texts; vb: the slots of the second target -/
def tDc2 (wa : TI) (ga : TG) (qa : TT) (wb : TI) (gb : TG) (qb : TT) (tk tv : TE) (vs vb : List Nat) : TE := fun σ H Q => wa σ H fun J H1 => ∀ D, H1 D = none → ∃ W : Nat → Nat → Hp → Prop, (∃ m, W 0 m (upd H1 D (.dT []))) ∧ ∀ i m H2, W i m H2 →
  (J.stop i H2 ∧ Q (.ref D) H2) ∨ (J.go i H2 ∧ ∃ Nx : Hp → Prop, (∀ H', Nx H' → ∃ m', m' < m ∧ W (i + 1) m' H') ∧ ∀ x H3, J.yld i H2 x H3 → ga x (wipe σ vs) H3 fun σ4 H4 => wipe σ4 vs = wipe σ vs ∧ qa σ4 H4 fun good H5 =>
    if good = true then wb σ4 H5 fun J1 H6 => ∃ V : Nat → Nat → Hp → Prop, (∃ m, V 0 m H6) ∧ ∀ j k H7, V j k H7 →
      (J1.stop j H7 ∧ Nx H7) ∨ (J1.go j H7 ∧ ∃ Ny : Hp → Prop, (∀ H', Ny H' → ∃ k', k' < k ∧ V (j + 1) k' H') ∧ ∀ y H8, J1.yld j H7 y H8 → gb y (wipe σ4 vb) H8 fun σ9 H9 => wipe σ9 vb = wipe σ4 vb ∧ qb σ9 H9 fun good2 H10 =>
        if good2 = true then tk σ9 H10 fun kk H11 => tv σ9 H11 fun ww H12 => ∃ kvs ks b, kk = .ref b ∧ H12 b = some (.tup (ks.map kV)) ∧ H12 D = some (.dT kvs) ∧ kvs.length < sizeLine ∧ Ny (upd H12 D (.dT (putK kvs ks ww))) else Ny H10)
    else Nx H5)
theorem dc2_core {pins : List (Addr × Obj)} {s : Shared} {σ : L2.St} {H : Hp} {Q : VK} {kx vx ta sa tb sb : Expr} {fa fb : List Expr} {scope : Scope} {own : List (Str × Nat)} {vb : List Nat} {pos pos' : Pos} {wa wb : TI} {ga gb : TG} {qa qb : TT} {tk tv : TE} {use : Option (Value → Sem Unit)} {Qf : Value → Shared → Prop}
    (hu : X.A.units + 1 < cLine) (calm : X.calm = true) (nd : X.N.Nodup) (I : Inv X pins σ H s) (pia : PI X ta sa wa) (bk : BlkOk X.N X.env.scope scope own) (sub : ∀ i ∈ vb, i ∈ own.map (·.2))
    (pga : ∀ s H C cl fp, PG (X.blk s H scope (compEnvC scope cl C X.env) fp) ta ga) (pqa : ∀ s H C cl fp, PTs (X.blk s H scope (compEnvC scope cl C X.env) fp) fa qa)
    (pib : ∀ s H C cl fp, PI (X.blk s H scope (compEnvC scope cl C X.env) fp) tb sb wb) (pgb : ∀ s H C cl fp, PG (X.blk s H scope (compEnvC scope cl C X.env) fp) tb gb) (pqb : ∀ s H C cl fp, PTs (X.blk s H scope (compEnvC scope cl C X.env) fp) fb qb)
    (pk : ∀ s H C cl fp, PE (X.blk s H scope (compEnvC scope cl C X.env) fp) kx tk) (pv : ∀ s H C cl fp, PE (X.blk s H scope (compEnvC scope cl C X.env) fp) vx tv)
    (fsa : ∀ x, foldedSetIterable sa X.env x = pure x) (fsb : ∀ en x, foldedSetIterable sb en x = pure x) (h : tDc2 wa ga qa wb gb qb tk tv (own.map (·.2)) vb σ H Q)
    (hEnd : ∀ D C s' m H', Inv X pins σ H' s' → Q (.ref D) H' → s'.heap.Ns C m → FpOk X pins H' C → compPost (model X.prog X.w) X.A X.xe use Qf (.ref D) C (.ok .next) s') :
    wpAny (model X.prog X.w) X.A (comprehension (dc2 kx vx ta sa tb sb fa fb scope pos) scope X.env pos' newDict false (eval sa X.env) use) Qf X.xe s := by
  have cells : ∀ y ∈ scope.names, y.2 = .free → ∃ c, X.env.cells.lookup y.1 = some c := fun y hy e => (bk.free y hy e).elim (fun k => I.ok.has _ (.inl k)) fun k => I.ok.has _ (.inr k)
  refine wpAny_comprehension_free (use := use) rfl fsa (closure_ok cells) bk.kind (fun y hy e => by rw [bk.uniq y hy, e]) (thn (pia.run pins s σ H _ I h) fun xv s1 hx => thn hx fun itv s2 h2 => ?_)
  obtain ⟨it, fp, tn, J, H2, rfl, I2, T, at2, ok2, q⟩ := h2
  refine wpAny_newObj_type (newEnv_comp ?_)
  generalize eD : s2.heap.objs.size = D
  have newD : H2 D = none := I2.hok.fresh (Nat.le_of_eq eD)
  obtain ⟨W, ⟨m0, w0⟩, turn⟩ := q D newD
  generalize es3 : ({ s2 with heap := s2.heap.push { cls := .type "dict", data := .dict #[] } } : Shared) = s3
  have I3 : Inv X pins σ (upd H2 D (.dT [])) s3 := by
    subst es3 eD
    exact I2.laid (t' := s2.toks) (fun b o e => Heap.get?_push_of_some _ e) (Nat.le_refl _) (dt_empty s2.heap I2.big)
  have hp3 : s3.heap = s2.heap.push { cls := .type "dict", data := .dict #[] } := by subst es3; rfl
  have lt2 : ∀ b ∈ fp, b < s2.heap.objs.size := fun b hb => let ⟨o, e, _⟩ := T.obj _ _ at2 b hb; Heap.lt_size e
  have ok3 : ∀ b ∈ fp, FpOk X pins (upd H2 D (.dT [])) b ∧ b < s3.heap.objs.size := fun b hb => by
    have l := lt2 b hb
    refine ⟨⟨?_, (ok2 b hb).2⟩, by rw [hp3, Heap.size_push]; exact Nat.lt_succ_of_lt l⟩
    rw [upd_ne (fun z => by subst eD; exact Nat.lt_irrefl _ (z ▸ l))]
    exact (ok2 b hb).1
  have at3 : tn 0 s3.heap := T.keep _ _ _ at2 fun b _ o e => by rw [hp3]; exact Heap.get?_push_of_some _ e
  have I4 := block_start I3 bk nd ok3
  have ga' := pga s3 (upd H2 D (.dT [])) s3.heap.objs.size (cellsFrom (s3.heap.objs.size + 1) scope.names (cloFrom X.env.cells scope.names [])) fp
  have qa' := pqa s3 (upd H2 D (.dT [])) s3.heap.objs.size (cellsFrom (s3.heap.objs.size + 1) scope.names (cloFrom X.env.cells scope.names [])) fp
  have ib' := pib s3 (upd H2 D (.dT [])) s3.heap.objs.size (cellsFrom (s3.heap.objs.size + 1) scope.names (cloFrom X.env.cells scope.names [])) fp
  have gb' := pgb s3 (upd H2 D (.dT [])) s3.heap.objs.size (cellsFrom (s3.heap.objs.size + 1) scope.names (cloFrom X.env.cells scope.names [])) fp
  have qb' := pqb s3 (upd H2 D (.dT [])) s3.heap.objs.size (cellsFrom (s3.heap.objs.size + 1) scope.names (cloFrom X.env.cells scope.names [])) fp
  have k' := pk s3 (upd H2 D (.dT [])) s3.heap.objs.size (cellsFrom (s3.heap.objs.size + 1) scope.names (cloFrom X.env.cells scope.names [])) fp
  have v' := pv s3 (upd H2 D (.dT [])) s3.heap.objs.size (cellsFrom (s3.heap.objs.size + 1) scope.names (cloFrom X.env.cells scope.names [])) fp
  show codeAny _ _ (.compStart (dc2 kx vx ta sa tb sb fa fb scope pos) 0 (.ref it) (.ref D) (compEnvC scope (cellsFrom (s3.heap.objs.size + 1) scope.names (cloFrom X.env.cells scope.names [])) s3.heap.objs.size X.env)) (compPost (model X.prog X.w) X.A X.xe use Qf (.ref D) s3.heap.objs.size) _
  have off : ∀ b ∈ fp, (upd H2 D (.dT [])) b = none := fun b hb => (ok3 b hb).1.1
  generalize ece : compEnvC scope (cellsFrom (s3.heap.objs.size + 1) scope.names (cloFrom X.env.cells scope.names [])) s3.heap.objs.size X.env = ce at I4 ga' qa' ib' gb' qb' k' v' ⊢
  have loc0 : ce.locals = s3.heap.objs.size := by subst ece; rfl
  generalize eH3 : upd H2 D (.dT []) = H3 at I3 I4 ga' qa' ib' gb' qb' k' v' w0 off ok3
  generalize es4 : ({ s3 with heap := pushCells (s3.heap.push { cls := .type "dict", data := .dict #[] }) scope.names } : Shared) = s4 at I4 ⊢
  have at4 : tn 0 s4.heap := T.keep _ _ _ at3 fun b _ o e => by subst es4; exact pushCells_keeps _ _ _ _ (Heap.get?_push_of_some _ e)
  have stay : ∀ {σ' : L2.St} {H' : Hp} {s' : Shared}, Inv (X.blk s3 H3 scope ce fp) [] σ' H' s' → (∀ b ∈ fp, H' b = none) → ∀ b ∈ fp, FpOk (X.blk s3 H3 scope ce fp) [] H' b := fun I' hn b hb =>
    ⟨hn b hb, (I'.ok.exf b hb).1, I'.ok.exfs b hb, .inl hb, fun x c e => (I'.ok.exf b hb).2 x c e, fun p hp => nomatch (show p ∈ [] from hp)⟩
  have outer : codeAny (model X.prog X.w) X.A (.compLoop (dc2 kx vx ta sa tb sb fa fb scope pos) 0 (.ref it) (.ref D) ce) (compPost (model X.prog X.w) X.A X.xe use Qf (.ref D) s3.heap.objs.size) s4 := by
    refine dc2_loop0 (fsb ce) (fun n u => ∃ i G, Inv (X.blk s3 H3 scope ce fp) [] (wipe σ (own.map (·.2))) G u ∧ tn i u.heap ∧ (∀ b ∈ fp, G b = none) ∧ W i n G) ?_ m0 ⟨0, H3, I4, at4, off, w0⟩
    rintro n s5 ⟨i, H5, I5, at5, n5, w5⟩
    rcases turn i n H5 w5 with ⟨stop, qq⟩ | ⟨go, Nx, hNx, step⟩
    · refine thnF (T.done (X.blk s3 H3 scope ce fp) rfl rfl rfl calm i [] s5 _ H5 (fun _ _ => False) I5 (stay I5 n5) at5 stop) fun r s6 ⟨hr, I6⟩ => ?_
      subst hr
      have I7 : Inv X pins σ H5 s6 := I3.call' (ch := fp) I6.os I6.base I6.hok I6.bare fun b hb => let f := (ok3 b hb).1; ⟨f.2.2.2.1, f.2.1, f.2.2.2.2.1, f.2.2.2.2.2⟩
      have gone : H5 s3.heap.objs.size = none := loc0 ▸ I6.free
      obtain ⟨m, hn, _⟩ := I6.loc
      exact hEnd D s3.heap.objs.size s6 m H5 I7 qq (loc0 ▸ (hn : s6.heap.Ns ce.locals m)) (I3.fpOk (Nat.le_refl _) gone)
    · refine thnF (T.item (X.blk s3 H3 scope ce fp) rfl rfl rfl calm i [] s5 _ H5 (fun _ _ => False) I5 (stay I5 n5) at5 go) fun r s6 ⟨u, hr, h6⟩ => ?_
      subst hr
      refine thnF h6 fun _ s7 ⟨x, H7, I7, r7, y7, at7, n7⟩ => ?_
      refine thnF (ga'.run _ s7 _ H7 x u _ (I7.pinned (stay I7 n7) (T.obj _ _ at7)) r7 (step x H7 y7)) fun _ s8 ⟨σ8, H8, I8, wp8, q8⟩ => ?_
      refine thnF (qa'.run _ s8 σ8 H8 _ I8 q8) fun good s9 ⟨H9, I9, q9⟩ => ?_
      have back : ∀ {σ9 : L2.St} {s' : Shared} {H' : Hp}, Inv (X.blk s3 H3 scope ce fp) ([] ++ pinsAt fp s7.heap) σ9 H' s' → (wipe σ (own.map (·.2))).length = σ9.length → (∀ (j : Nat) v, (wipe σ (own.map (·.2)))[j]? = some (some v) → σ9[j]? = some (some v)) → Nx H' →
          ∃ m, m < n ∧ ∃ i G, Inv (X.blk s3 H3 scope ce fp) [] (wipe σ (own.map (·.2))) G s' ∧ tn i s'.heap ∧ (∀ b ∈ fp, G b = none) ∧ W i m G := fun {σ9 s' H'} I' hl hk nx => by
        obtain ⟨m', hm, w'⟩ := hNx H' nx
        have pinned : ∀ b ∈ fp, ∀ o, s7.heap.get? b = some o → s'.heap.get? b = some o ∧ H' b = none := fun b hb o e =>
          let z := I'.pin (b, o) (List.mem_append_right _ (List.mem_append_right _ (mem_pinsAt hb e))); ⟨z.1, z.2.1⟩
        exact ⟨m', hm, i + 1, H', (I'.unpinned (pins := [])).weak hl hk, T.keep _ _ _ at7 fun b hb o e => (pinned b hb o e).1, fun b hb => let ⟨o, e, _⟩ := T.obj _ _ at7 b hb; (pinned b hb o e).2, w'⟩
      have len8 : (wipe σ (own.map (·.2))).length = σ8.length := by rw [← wp8, wipe_length]
      have kn8 : ∀ (j : Nat) v, (wipe σ (own.map (·.2)))[j]? = some (some v) → σ8[j]? = some (some v) ∧ j ∉ own.map (·.2) := fun j v e => by rw [← wp8] at e; exact wipe_some e
      cases good with
      | false => simp only [Bool.false_eq_true, if_false] at q9 ⊢; exact back I9 len8 (fun j v e => (kn8 j v e).1) q9
      | true =>
        simp only [if_true] at q9 ⊢
        refine thnF (ib'.run _ s9 σ8 H9 _ I9 q9) fun xv s10 hx => thnF hx fun itv s11 h11 => ?_
        obtain ⟨it1, fp1, tn1, J1, H11, rfl, I11, T1, at11, ok11, V1, ⟨m1, w1⟩, turn1⟩ := h11
        have stay1 : ∀ {H' : Hp}, (∀ b ∈ fp1, H' b = none) → ∀ b ∈ fp1, FpOk (X.blk s3 H3 scope ce fp) ([] ++ pinsAt fp s7.heap) H' b := fun hn b hb => ⟨hn b hb, (ok11 b hb).2⟩
        have inner : codeAny (model X.prog X.w) X.A (.compLoop (dc2 kx vx ta sa tb sb fa fb scope pos) 1 (.ref it1) (.ref D) ce) (fun r u => match r with
              | .ok _ => ∃ m, m < n ∧ ∃ i G, Inv (X.blk s3 H3 scope ce fp) [] (wipe σ (own.map (·.2))) G u ∧ tn i u.heap ∧ (∀ b ∈ fp, G b = none) ∧ W i m G
              | .error _ => False) s11 := by
          refine dc2_loop1 (fun k u => ∃ j G, Inv (X.blk s3 H3 scope ce fp) ([] ++ pinsAt fp s7.heap) (wipe σ8 vb) G u ∧ tn1 j u.heap ∧ (∀ b ∈ fp1, G b = none) ∧ V1 j k G) ?_ m1 ⟨0, H11, I11.weak (wipe_length _ _) (fun j v e => (wipe_some e).1), at11, fun b hb => (ok11 b hb).1, w1⟩
          rintro k s12 ⟨j, H12, I12, at12, n12, w12⟩
          rcases turn1 j k H12 w12 with ⟨stop1, nx1⟩ | ⟨go1, Ny, hNy, step1⟩
          · refine thnF (T1.done (X.blk s3 H3 scope ce fp) rfl rfl rfl calm j _ s12 (wipe σ8 vb) H12 (fun _ _ => False) I12 (stay1 n12) at12 stop1) fun r s13 ⟨hr, I13⟩ => ?_
            subst hr
            exact back I13 (len8.trans (wipe_length σ8 vb).symm) (fun j v e => by rw [wipe_out fun z => (kn8 j v e).2 (sub j z)]; exact (kn8 j v e).1) nx1
          · refine thnF (T1.item (X.blk s3 H3 scope ce fp) rfl rfl rfl calm j _ s12 (wipe σ8 vb) H12 (fun _ _ => False) I12 (stay1 n12) at12 go1) fun r s13 ⟨u1, hr, h13⟩ => ?_
            subst hr
            refine thnF h13 fun _ s14 ⟨y, H14, I14, r14, y14, at14, n14⟩ => ?_
            refine thnF (gb'.run _ s14 (wipe σ8 vb) H14 y u1 _ (I14.pinned (stay1 n14) (T1.obj _ _ at14)) r14 (step1 y H14 y14)) fun _ s15 ⟨σ15, H15, I15, wp15, q15⟩ => ?_
            refine thnF (qb'.run _ s15 σ15 H15 _ I15 q15) fun good2 s16 ⟨H16, I16, q16⟩ => ?_
            have back1 : ∀ {s' : Shared} {H' : Hp}, Inv (X.blk s3 H3 scope ce fp) (([] ++ pinsAt fp s7.heap) ++ pinsAt fp1 s14.heap) σ15 H' s' → Ny H' → ∃ m, m < k ∧ ∃ j G, Inv (X.blk s3 H3 scope ce fp) ([] ++ pinsAt fp s7.heap) (wipe σ8 vb) G s' ∧ tn1 j s'.heap ∧ (∀ b ∈ fp1, G b = none) ∧ V1 j m G := fun {s' H'} I' nx => by
              obtain ⟨m', hm, w'⟩ := hNy H' nx
              have pinned : ∀ b ∈ fp1, ∀ o, s14.heap.get? b = some o → s'.heap.get? b = some o ∧ H' b = none := fun b hb o e =>
                let z := I'.pin (b, o) (List.mem_append_right _ (List.mem_append_right _ (mem_pinsAt hb e))); ⟨z.1, z.2.1⟩
              exact ⟨m', hm, j + 1, H', I'.unpinned.weak (by rw [← wp15, wipe_length]) (fun j v e => by rw [← wp15] at e; exact (wipe_some e).1), T1.keep _ _ _ at14 fun b hb o e => (pinned b hb o e).1, fun b hb => let ⟨o, e, _⟩ := T1.obj _ _ at14 b hb; (pinned b hb o e).2, w'⟩
            cases good2 with
            | false => simp only [Bool.false_eq_true, if_false] at q16 ⊢; exact back1 I16 q16
            | true =>
              simp only [if_true] at q16 ⊢
              refine thnF (k'.run _ s16 σ15 H16 _ I16 q16) fun z s17 ⟨kk, H17, I17, r17, q17⟩ => ?_
              refine thnF (v'.run _ s17 σ15 H17 _ I17 q17) fun z2 s18 ⟨ww, H18, I18, r18, kvs, ks, b, ek, hb, hD, hz, nx⟩ => ?_
              subst ek
              have ez : z = Value.ref b := r17
              subst ez
              exact dictSetT (X := X.blk s3 H3 scope ce fp) hu I18 hD hz hb r18 fun s19 I19 => back1 I19 nx
        exact dc2_start1 inner (T1.self X.A 0 _ _ _ at11 inner)
  exact codeAny_compStart_dict outer (T.self X.A 0 _ _ _ at4 outer)
theorem pe_dc2 {kx vx ta sa tb sb : Expr} {fa fb : List Expr} {scope : Scope} {own : List (Str × Nat)} {vb : List Nat} {pos : Pos} {wa wb : TI} {ga gb : TG} {qa qb : TT} {tk tv : TE} (hu : X.A.units + 1 < cLine) (calm : X.calm = true) (nd : X.N.Nodup) (pia : PI X ta sa wa) (bk : BlkOk X.N X.env.scope scope own) (sub : ∀ i ∈ vb, i ∈ own.map (·.2))
    (pga : ∀ s H C cl fp, PG (X.blk s H scope (compEnvC scope cl C X.env) fp) ta ga) (pqa : ∀ s H C cl fp, PTs (X.blk s H scope (compEnvC scope cl C X.env) fp) fa qa)
    (pib : ∀ s H C cl fp, PI (X.blk s H scope (compEnvC scope cl C X.env) fp) tb sb wb) (pgb : ∀ s H C cl fp, PG (X.blk s H scope (compEnvC scope cl C X.env) fp) tb gb) (pqb : ∀ s H C cl fp, PTs (X.blk s H scope (compEnvC scope cl C X.env) fp) fb qb)
    (pk : ∀ s H C cl fp, PE (X.blk s H scope (compEnvC scope cl C X.env) fp) kx tk) (pv : ∀ s H C cl fp, PE (X.blk s H scope (compEnvC scope cl C X.env) fp) vx tv)
    (fsa : ∀ x, foldedSetIterable sa X.env x = pure x := by intro _; rfl) (fsb : ∀ en x, foldedSetIterable sb en x = pure x := by intro _ _; rfl) :
    PE X (dc2 kx vx ta sa tb sb fa fb scope pos) (tDc2 wa ga qa wb gb qb tk tv (own.map (·.2)) vb) := by
  constructor
  intro pins s σ H Q I h
  rw [arm_eval_DictComp]
  refine dc2_core hu calm nd I pia bk sub pga pqa pib pgb pqb pk pv fsa fsb h fun D C s' m H' I' q hn f => ⟨m, hn, fun h2 sb => ?_⟩
  exact ⟨.ref D, H', I'.turned (t' := s'.toks) (fun b o hb e => (sb.2 b hb).trans e) f.1 f.2.1 f.2.2.2.1 f.2.2.2.2.1 f.2.2.2.2.2, rfl, q⟩
end
end Pz

namespace Pz
open PySem PySem.Spec PyProof.Rows L2
/-! ### zip of three lists -/
/-- the items of three lists as they stand at each turn, in new tuples -/
def It3 (K : PySem.W.Frag) (a b c : Addr) : It :=
  ⟨fun i H => ∃ (xs ys zs : List V) (x y z : V), SqL K H a xs ∧ SqL K H b ys ∧ SqL K H c zs ∧ xs[i]? = some x ∧ ys[i]? = some y ∧ zs[i]? = some z,
    fun i H v H' => ∃ T x y z, v = .ref T ∧ H T = none ∧ H' = upd H T (.tup [x, y, z]) ∧ (∀ l, SqL K H a l → l[i]? = some x) ∧ (∀ l, SqL K H b l → l[i]? = some y) ∧ ∀ l, SqL K H c l → l[i]? = some z,
    fun i H => ∃ xs ys zs : List V, SqL K H a xs ∧ SqL K H b ys ∧ SqL K H c zs ∧ i ≤ xs.length ∧ i ≤ ys.length ∧ i ≤ zs.length ∧ (xs.length = i ∨ ys.length = i ∨ zs.length = i)⟩
/-- how the six new cells lie -/
structure Ap3 (z TI TO i1 i2 i3 a b c : Addr) : Prop where
  n1 : TI ≠ z
  n2 : TO ≠ z
  n3 : TI ≠ TO
  n4 : TI ≠ i1 ∧ TI ≠ i2 ∧ TI ≠ i3
  n5 : z ≠ i1 ∧ z ≠ i2 ∧ z ≠ i3
  n6 : TO ≠ i1 ∧ TO ≠ i2 ∧ TO ≠ i3
  n7 : i1 ≠ i2 ∧ i1 ≠ i3 ∧ i2 ≠ i3
  n8 : ∀ l, l = a ∨ l = b ∨ l = c → z ≠ l ∧ TO ≠ l ∧ i1 ≠ l ∧ i2 ≠ l ∧ i3 ≠ l
theorem ap3_new (n a b c : Nat) (la : a < n) (lb : b < n) (lc : c < n) : Ap3 (n + 5) (n + 3) (n + 4) n (n + 1) (n + 2) a b c := by
  have far : ∀ l : Nat, l < n → n + 5 ≠ l ∧ n + 4 ≠ l ∧ n ≠ l ∧ n + 1 ≠ l ∧ n + 2 ≠ l := fun l hl => ⟨by omega, by omega, by omega, by omega, by omega⟩
  have p1 : n + 3 ≠ n + 5 := by omega
  have p2 : n + 4 ≠ n + 5 := by omega
  have p3 : n + 3 ≠ n + 4 := by omega
  have p4 : n + 3 ≠ n ∧ n + 3 ≠ n + 1 ∧ n + 3 ≠ n + 2 := ⟨by omega, by omega, by omega⟩
  have p5 : n + 5 ≠ n ∧ n + 5 ≠ n + 1 ∧ n + 5 ≠ n + 2 := ⟨by omega, by omega, by omega⟩
  have p6 : n + 4 ≠ n ∧ n + 4 ≠ n + 1 ∧ n + 4 ≠ n + 2 := ⟨by omega, by omega, by omega⟩
  have p7 : n ≠ n + 1 ∧ n ≠ n + 2 ∧ n + 1 ≠ n + 2 := ⟨by omega, by omega, by omega⟩
  refine ⟨p1, p2, p3, p4, p5, p6, p7, fun l hl => ?_⟩
  rcases hl with e | e | e
  · rw [e]; exact far a la
  · rw [e]; exact far b lb
  · rw [e]; exact far c lc
theorem Ap3.sep {z TI TO i1 i2 i3 a b c : Addr} (D : Ap3 z TI TO i1 i2 i3 a b c) : ZipSep3 z TI TO i1 i2 i3 [i1, a] [i2, b] [i3, c] := by
  obtain ⟨z1, o1, p1, q1, r1⟩ := D.n8 a (.inl rfl)
  obtain ⟨z2, o2, p2, q2, r2⟩ := D.n8 b (.inr (.inl rfl))
  obtain ⟨z3, o3, p3, q3, r3⟩ := D.n8 c (.inr (.inr rfl))
  obtain ⟨t1, t2, t3⟩ := D.n4
  obtain ⟨y1, y2, y3⟩ := D.n5
  obtain ⟨x1, x2, x3⟩ := D.n6
  obtain ⟨w1, w2, w3⟩ := D.n7
  have no : ∀ {p q r : Addr}, p ≠ q → p ≠ r → p ∉ [q, r] := fun h h' hm => by
    rcases List.mem_cons.mp hm with e | e
    · exact h e
    · exact h' (List.mem_singleton.mp e)
  exact ⟨D.n1, D.n2, D.n3, t1, by simp, no y1 z1, no x1 o1, t2, by simp, no y2 z2, no x2 o2, t3, by simp, no y3 z3, no x3 o3, no w1 p2, no w2 p3, no (Ne.symm w1) q1, no w3 q3, no (Ne.symm w2) r1, no (Ne.symm w3) r2⟩
theorem turn3 {P : Program} {w : World} {K : PySem.W.Frag} {elts : List Expr} {kk : Nat} {tpos : Pos} {a b c z TI TO i1 i2 i3 : Addr} (D : Ap3 z TI TO i1 i2 i3 a b c) :
    Turn P w K (.Tuple elts kk tpos) (It3 K a b c) [z, TI, TO, i1, i2, i3] z (fun i h => IsZip h z TI TO .none ∧ IsTupOf3 h TI (.ref i1) (.ref i2) (.ref i3) ∧ (∃ x y v, IsTupOf3 h TO x y v) ∧ h.IsListIter i1 a i ∧ h.IsListIter i2 b i ∧ h.IsListIter i3 c i) := by
  have S := D.sep
  refine ⟨by simp, fun i h at_ e he => ?_, fun i h h' at_ k => ?_, ?_, ?_, fun A i s Q E at_ q => wpAny_pyIter_zip at_.1 q⟩
  · obtain ⟨hz, hI, ⟨x, y, v, hO⟩, ⟨o1, e1, _, d1⟩, ⟨o2, e2, _, d2⟩, ⟨o3, e3, _, d3⟩⟩ := at_
    have which : e = z ∨ e = TI ∨ e = TO ∨ e = i1 ∨ e = i2 ∨ e = i3 := by simpa using he
    rcases which with rfl | rfl | rfl | rfl | rfl | rfl
    · exact ⟨_, hz, fun v q => nomatch q⟩
    · exact ⟨_, hI, fun v q => nomatch q⟩
    · exact ⟨_, hO, fun v q => nomatch q⟩
    · exact ⟨o1, e1, fun v q => by rw [d1] at q; cases q⟩
    · exact ⟨o2, e2, fun v q => by rw [d2] at q; cases q⟩
    · exact ⟨o3, e3, fun v q => by rw [d3] at q; cases q⟩
  · obtain ⟨hz, hI, ⟨x, y, v, hO⟩, h1, h2, h3⟩ := at_
    exact ⟨k z (by simp) _ hz, k TI (by simp) _ hI, ⟨x, y, v, k TO (by simp) _ hO⟩, h1.at fun o q => k i1 (by simp) o q, h2.at fun o q => k i2 (by simp) o q, h3.at fun o q => k i3 (by simp) o q⟩
  · intro X hP hw hK hc i pins s σ H E I off at_ go
    subst hP hw hK
    obtain ⟨hz, hI, ⟨x0, y0, v0, hO⟩, h1, h2, h3⟩ := at_
    obtain ⟨xs, ys, zs, x, y, v, qa, qb, qc, ex, ey, ev⟩ := go
    obtain ⟨l1, r1, p1, _⟩ := I.list qa
    obtain ⟨l2, r2, p2, _⟩ := I.list qb
    obtain ⟨l3, r3, p3, _⟩ := I.list qc
    obtain ⟨u1, g1, rv1⟩ := r1.get ex
    obtain ⟨u2, g2, rv2⟩ := r2.get ey
    obtain ⟨u3, g3, rv3⟩ := r3.get ev
    have hh : X.A.in1.handled = none := I.ok.hd hc
    have lt : ∀ {e : Addr} {o : Obj}, s.heap.get? e = some o → s.heap.objs.size ≠ e := fun q => Nat.ne_of_gt (Heap.lt_size q)
    have inb : ∀ {l : List Value} {j : Nat} {u : Value}, l[j]? = some u → j < l.toArray.size := fun q => by simpa using (List.getElem?_eq_some_iff.mp q).1
    refine wpAny_pyNext_zipD3_item (P1 := fun j q => l1.toArray[j]? = some q) (P2 := fun j q => l2.toArray[j]? = some q) (P3 := fun j q => l3.toArray[j]? = some q) S (Draws.list hh i1 a (Ne.symm (D.n8 a (.inl rfl)).2.2.1) l1.toArray) (Draws.list hh i2 b (Ne.symm (D.n8 b (.inr (.inl rfl))).2.2.2.1) l2.toArray) (Draws.list hh i3 c (Ne.symm (D.n8 c (.inr (.inr rfl))).2.2.2.2) l3.toArray)
      hz hI hO ⟨h1, p1.isList⟩ ⟨h2, p2.isList⟩ ⟨h3, p3.isList⟩ (inb g1) (inb g2) (inb g3) fun w1 w2 w3 h' tk b1 b2 b3 z' O' d1 d2 d3 hT hsz hk => ?_
    have c1 : w1 = u1 := by rw [List.getElem?_toArray, g1] at b1; exact (Option.some.inj b1).symm
    have c2 : w2 = u2 := by rw [List.getElem?_toArray, g2] at b2; exact (Option.some.inj b2).symm
    have c3 : w3 = u3 := by rw [List.getElem?_toArray, g3] at b3; exact (Option.some.inj b3).symm
    subst c1 c2 c3
    refine ⟨_, rfl, wpAny_letOwnedTupleGo_zip (s := { s with heap := h', toks := tk }) z' fun h2' z2 sb => ?_⟩
    have hT2 : h2'.get? s.heap.objs.size = some { cls := .type "tuple", data := .seq #[w1, w2, w3] } := (sb.2 _ (lt hz)).trans hT
    have new : ObjOk X.prog X.w (upd H s.heap.objs.size (.tup [x, y, v])) h2' s.heap.objs.size (.tup [x, y, v]) := ⟨by show 3 ≤ sizeLine; decide, [w1, w2, w3], .cons rv1 (.cons rv2 (.cons rv3 .nil)), ⟨_, hT2, rfl, _, rfl⟩⟩
    have I1 : Inv X pins σ (upd H s.heap.objs.size (.tup [x, y, v])) { s with heap := h2', toks := tk } :=
      I.turnedNew (t' := tk) (ch := [z, TI, TO, i1, i2, i3]) (fun e o hb q => (sb.2 e (fun q' => hb (by simp [q']))).trans (hk e o (fun q' => hb (by simp [q'])) (fun q' => hb (by simp [q'])) (fun q' => hb (by simp [q'])) (fun q' => hb (by simp [q'])) (fun q' => hb (by simp [q'])) q)) off (Nat.le_refl _) new
    refine ⟨.ref s.heap.objs.size, _, I1, rfl, ⟨_, x, y, v, rfl, I.hok.fresh (Nat.le_refl _), rfl, fun l hl => by rw [I.list_inj hl qa]; exact ex, fun l hl => by rw [I.list_inj hl qb]; exact ey, fun l hl => by rw [I.list_inj hl qc]; exact ev⟩, ⟨z2, ?_, ⟨w1, w2, w3, ?_⟩, ?_, ?_, ?_⟩, fun e he => ?_⟩
    · exact (sb.2 _ D.n1).trans (hk _ _ D.n1 D.n3 D.n4.1 D.n4.2.1 D.n4.2.2 hI)
    · exact (sb.2 _ D.n2).trans O'
    · exact d1.1.at fun o q => (sb.2 _ (Ne.symm D.n5.1)).trans q
    · exact d2.1.at fun o q => (sb.2 _ (Ne.symm D.n5.2.1)).trans q
    · exact d3.1.at fun o q => (sb.2 _ (Ne.symm D.n5.2.2)).trans q
    · have hlt : s.heap.objs.size ≠ e := by
        have which : e = z ∨ e = TI ∨ e = TO ∨ e = i1 ∨ e = i2 ∨ e = i3 := by simpa using he
        rcases which with rfl | rfl | rfl | rfl | rfl | rfl
        · exact lt hz
        · exact lt hI
        · exact lt hO
        · obtain ⟨_, e1, _⟩ := h1; exact lt e1
        · obtain ⟨_, e2, _⟩ := h2; exact lt e2
        · obtain ⟨_, e3, _⟩ := h3; exact lt e3
      rw [upd_ne (Ne.symm hlt)]
      exact (off e he).1
  · intro X hP hw hK hc i pins s σ H E I off at_ stop
    subst hP hw hK
    obtain ⟨hz, hI, ⟨x0, y0, v0, hO⟩, h1, h2, h3⟩ := at_
    obtain ⟨xs, ys, zs, qa, qb, qc, le1, le2, le3, fin⟩ := stop
    obtain ⟨l1, r1, p1, _⟩ := I.list qa
    obtain ⟨l2, r2, p2, _⟩ := I.list qb
    obtain ⟨l3, r3, p3, _⟩ := I.list qc
    have m1 := r1.length
    have m2 := r2.length
    have m3 := r3.length
    have hh : X.A.in1.handled = none := I.ok.hd hc
    refine wpAny_pyNext_zipD3_end S (Draws.list hh i1 a (Ne.symm (D.n8 a (.inl rfl)).2.2.1) l1.toArray) (Draws.list hh i2 b (Ne.symm (D.n8 b (.inr (.inl rfl))).2.2.2.1) l2.toArray) (Draws.list hh i3 c (Ne.symm (D.n8 c (.inr (.inr rfl))).2.2.2.2) l3.toArray)
      hz hI hO ⟨h1, p1.isList⟩ ⟨h2, p2.isList⟩ ⟨h3, p3.isList⟩ (by simp; omega) (by simp; omega) (by simp; omega) (by simp; omega) fun h' tk hk => ⟨rfl, ?_⟩
    exact I.turnedL (t' := tk) (ch := [z, TI, TO, i1, i2, i3]) (fun e o hb q => hk e o (fun q' => hb (by simp [q'])) (fun q' => hb (by simp [q'])) (fun q' => hb (by simp [q'])) (fun q' => hb (by simp [q'])) (fun q' => hb (by simp [q'])) q) off
def iZip3 (K : PySem.W.Frag) (ta : TA) : TI := fun σ H R => ta σ H fun vs H1 => ∃ a b c xs ys zs, vs = [.ref a, .ref b, .ref c] ∧ SqL K H1 a xs ∧ SqL K H1 b ys ∧ SqL K H1 c zs ∧ R (It3 K a b c) H1
theorem pi_zip3 {X : Cx} {e1 e2 e3 : Expr} {ta : TA} {p pos tpos : Pos} {elts : List Expr} {kk : Nat} (hg : Gl X "zip") (hm : X.mg "zip" = none) (ha : PA X [e1, e2, e3] ta)
    (hs : starEach [e1, e2, e3] X.env = (false, eval e1 X.env) :: starEach [e2, e3] X.env := by rfl) (hpl : (backTo pos (starEach [e2, e3] X.env)).any (·.1) = false := by rfl) :
    PI X (.Tuple elts kk tpos) (.Call (.Name "zip" p) [e1, e2, e3] [] pos) (iZip3 X.K ta) := by
  constructor
  intro pins s σ H R I h
  refine Call_ (ld_blt I hg hm PyProof.Rows.boot_zip (PyProof.Rows.callWith_type1 (thn (ha.run pos pins s σ H _ I h) fun us s1 ⟨vs, H1, I1, rv, q1⟩ => ?_) hs hpl))
  obtain ⟨a, b, c, xs, ys, zs, rfl, qa, qb, qc, q⟩ := q1
  cases rv with
  | cons ra rv =>
  cases rv with
  | cons rb rv =>
  cases rv with
  | cons rc rv =>
    cases rv
    cases ra
    cases rb
    cases rc
    obtain ⟨l1, r1, p1, _⟩ := I1.list qa
    obtain ⟨l2, r2, p2, _⟩ := I1.list qb
    obtain ⟨l3, r3, p3, _⟩ := I1.list qc
    have la : a < s1.heap.objs.size := p1.lt
    have lb : b < s1.heap.objs.size := p2.lt
    have lc : c < s1.heap.objs.size := p3.lt
    refine zip_begins3 (begins_list a l1.toArray) (begins_list b l2.toArray) (begins_list c l3.toArray) p1.isList p2.isList p3.isList fun h' hz hI hO h1 h2 h3 hsz hk => wpAny_pyIter_zip hz ?_
    have I2 : Inv X pins σ H1 { s1 with heap := h' } := I1.kept (t' := s1.toks) hk
    refine ⟨s1.heap.objs.size + 5, [s1.heap.objs.size + 5, s1.heap.objs.size + 3, s1.heap.objs.size + 4, s1.heap.objs.size, s1.heap.objs.size + 1, s1.heap.objs.size + 2], _, _, H1, rfl, I2, turn3 ?_, ⟨hz, hI, ⟨_, _, _, hO⟩, ⟨_, h1, rfl, rfl⟩, ⟨_, h2, rfl, rfl⟩, ⟨_, h3, rfl, rfl⟩⟩, fun e he => ?_, q⟩
    · exact ap3_new _ _ _ _ la lb lc
    · have hle : s1.heap.objs.size ≤ e := by
        have which : e = s1.heap.objs.size + 5 ∨ e = s1.heap.objs.size + 3 ∨ e = s1.heap.objs.size + 4 ∨ e = s1.heap.objs.size ∨ e = s1.heap.objs.size + 1 ∨ e = s1.heap.objs.size + 2 := by simpa using he
        rcases which with z | z | z | z | z | z <;> (rw [z]; first | exact Nat.le_refl _ | exact Nat.le_add_right _ _)
      exact I1.fpOk hle (I1.hok.fresh hle)
/-- its turns -/
theorem walk3 {K : PySem.W.Frag} {a b c : Addr} {xs ys zs : List V} {n : Nat} (h1 : xs.length = n) (h2 : ys.length = n) (h3 : zs.length = n) :
    Walk (It3 K a b c) n (fun H => SqL K H a xs ∧ SqL K H b ys ∧ SqL K H c zs) (fun i H v H' => ∃ T x y z, v = .ref T ∧ H T = none ∧ H' = upd H T (.tup [x, y, z]) ∧ xs[i]? = some x ∧ ys[i]? = some y ∧ zs[i]? = some z) := by
  refine ⟨fun i _ hi q => ?_, fun _ q => ⟨xs, ys, zs, q.1, q.2.1, q.2.2, by omega, by omega, by omega, .inl h1⟩, fun i H v H' _ q g => ?_⟩
  · exact ⟨xs, ys, zs, xs[i]'(by omega), ys[i]'(by omega), zs[i]'(by omega), q.1, q.2.1, q.2.2, List.getElem?_eq_getElem _, List.getElem?_eq_getElem _, List.getElem?_eq_getElem _⟩
  · obtain ⟨T, x, y, z, g1, g2, g3, g4, g5, g6⟩ := g
    exact ⟨T, x, y, z, g1, g2, g3, g4 xs q.1, g5 ys q.2.1, g6 zs q.2.2⟩
end Pz

namespace Pz
open PySem L2
open PyProof.Rows (envOfC)
/-! ### calls of a def whose parameters are keyword-only: f(), f(k = v, ..) -/
section
variable {P : Program} {w : World} {K : PySem.W.Frag} {x qual : Str} {params : Arguments} {body : List Stmt} {scope : Scope} {kws : List (Str × V)} {f : Addr} {fd : FuncData} {ps : List Str}
/-- ks: the names written; ms: those that lack; g puts the values into the order of the parameters -/
theorem kbinds0 (F : FunD K x qual params body scope [] kws f fd) (ks : List Str) (ms : List (Str × V)) (g : {α : Type} → List α → List α → List α) (hk : kws ≠ []) (hms : ∀ q ∈ ms, q ∈ kws)
    (hrel : ∀ {mz zs : List V} {mv ws : List Value}, Vals mz mv → Vals zs ws → Vals (g mz zs) (g mv ws))
    (h : ∀ (D : Addr) (doc pm : Value) (an : Option Addr) (cdv ct : Value) (mv ws : List Value), mv.length = ms.length → ws.length = ks.length →
      KwChain D ((ms.map (·.1)).zip mv) (bindArgs (PySem.W.fnOf x qual params body scope .none (.ref D) doc pm an cdv ct) ⟨[], ks.zip ws⟩) (ps.zip (g mv ws))) :
    ∃ mv : List Value, KBn K fd ps 0 ks (fun _ ws => g mv ws) (fun _ zs => g (ms.map (·.2)) zs) := by
  obtain ⟨oc, od, dV, kV, doc, pm, an, cdv, ct, osl, rfl, lk, hcd, hD, hK⟩ := F.ex
  rcases hD with ⟨_, rfl⟩ | ⟨e, _⟩
  · rcases hK with e | ⟨D, rfl, hq⟩
    · exact absurd e hk
    · obtain ⟨mv, hl, rk, hks⟩ := kwd_vals (ms := ms) fun q hm => hq q (hms q hm)
      refine ⟨mv, ⟨fun s us ws X l1 l2 => ?_, fun _ r2 => hrel rk r2⟩⟩
      have e0 : us = [] := List.eq_nil_of_length_eq_zero l1
      subst e0
      exact BindsTo.of_looks fun M => KwChain.looks X hks (h D doc pm an cdv ct mv ws hl l2)
  · exact absurd rfl e
end
def tCallN0 (m : Nat) (sp : Sp) (gV : List V → List V → List V) (E : XK) (tk : TA) : TE := fun σ H Q => tk σ H fun zs H2 => zs.length = m ∧ sp (gV [] zs) H2 Q E
section
variable {X : Cx} {CX : CXT} {k : Nat} {f : Addr} {fd : FuncData} {ps ks : List Str} {sp : Sp} {E : XK} {x : Str} {p pos : Pos} {kws : List Keyword} {tk : TA} {g : List Value → List Value → List Value} {gV : List V → List V → List V}
theorem pe_callN0 (F : FnOk X.prog X.w X.K X.mg X.base CX k f fd ps sp) (hr : Room k X.A) (hg : Gl X x) (hm : X.mg x = some (.ref f)) (hk : PySem.W.keepIn X.K (.ref f) = true) (hb : KBn X.K fd ps 0 ks g gV) (hx : Passes CX X E)
    (hkw : PK X kws tk) (hall : (backToKw pos (keywordEach kws X.env)).all (·.1.isSome) = true := by rfl) (hks : (backToKw pos (keywordEach kws X.env)).filterMap (·.1) = ks := by rfl)
    (hdb : (x == ("__debug__" : Str)) = false := by decide)
    (hpl : ((backTo pos (starEach [] X.env)).any (·.1) || (backToKw pos (keywordEach kws X.env)).any (·.1.isNone)) = false := by rfl) :
    PE X (.Call (.Name x p) [] kws pos) (tCallN0 ks.length sp gV E tk) := by
  refine ⟨fun pins s σ H Q I h => ?_⟩
  refine wpAny_Call_Name_kw (ld_glob I hg hm ?_ hdb)
  refine PySem.W.callWith_KW0 (h₀ := X.base) I.ok.mod.kin hk hall ?_ hpl
  refine thn (hkw.run pos pins s σ H _ I h) fun ws s2 ⟨zs, H2, I2, rz, l2, q2⟩ => ⟨I2.kIn, ?_⟩
  rw [hks]
  exact run_fnN F hr hb hx I2 .nil rz rfl l2 q2
end
end Pz

namespace Pz
open PySem PySem.Spec PyProof.Rows L2
/-! ### parts of a text by their places -/
def noS : Stmt := .Pass ⟨0, 0, 0, 0⟩
def noX : Expr := .Name "" ⟨0, 0, 0, 0⟩
def sAt (b : List Stmt) (i : Nat) : Stmt := b.getD i noS
def sBody : Stmt → List Stmt
  | .For _ _ b _ _ => b
  | .If _ b _ _ => b
  | .While _ b _ _ => b
  | .Try b _ _ _ _ => b
  | _ => []
def sElse : Stmt → List Stmt
  | .If _ _ b _ => b
  | .For _ _ _ b _ => b
  | _ => []
def sVal : Stmt → Expr
  | .Return (some e) _ => e
  | .Assign _ e _ => e
  | .Expr e _ => e
  | .If e _ _ _ => e
  | .For _ e _ _ _ => e
  | .While e _ _ _ => e
  | _ => noX
def eAt (i : Nat) : Expr → Expr
  | .Call f as _ _ => (f :: as).getD i noX
  | .Tuple es _ _ => es.getD i noX
  | .List es _ => es.getD i noX
  | .Compare l _ cs _ => (l :: cs).getD i noX
  | .BinOp l _ r _ => [l, r].getD i noX
  | .BoolOp _ vs _ => vs.getD i noX
  | .UnaryOp _ e _ => e
  | .ListComp e _ _ _ => e
  | .Subscript v s _ => [v, s].getD i noX
  | .IfExp t a b _ => [t, a, b].getD i noX
  | .Attribute e _ _ => e
  | .Dict _ vs _ => vs.getD i noX
  | _ => noX
def eSc : Expr → Scope
  | .ListComp _ _ sc _ => sc
  | .DictComp _ _ _ sc _ => sc
  | _ => default
end Pz

namespace Pz
open PySem L2
open PyProof.Rows (envOfC)
/-! ### the text by places -/
def topS (i : Nat) : Stmt := PySem.Challenge.pw_paidinparts_k39_payments.main.body.getD i (.Pass ⟨0, 0, 0, 0⟩)
abbrev s_law_well : Stmt := topS 27
theorem sc_law_well : FnScope ["cell", "k", "far"] ["cell", "k"] (defScope s_law_well) := ⟨rfl, rfl, rfl, by decide +kernel, rfl, by decide +kernel, by decide +kernel⟩
abbrev s_law_pick : Stmt := topS 28
theorem sc_law_pick : FnScope ["well", "many", "one", "stirred"] ["well", "many"] (defScope s_law_pick) := ⟨rfl, rfl, rfl, by decide +kernel, rfl, by decide +kernel, by decide +kernel⟩
abbrev s_numbers_of : Stmt := topS 11
theorem sc_numbers_of : FnScope ["columns", "table", "column"] ["columns", "table"] (defScope s_numbers_of) := ⟨rfl, rfl, rfl, by decide +kernel, rfl, by decide +kernel, by decide +kernel⟩
abbrev s_is_name : Stmt := topS 15
theorem sc_is_name : FnScope ["text", "sign"] ["text"] (defScope s_is_name) := ⟨rfl, rfl, rfl, by decide +kernel, rfl, by decide +kernel, by decide +kernel⟩
abbrev s_require_name : Stmt := topS 16
theorem sc_require_name : FnScope ["text"] ["text"] (defScope s_require_name) := ⟨rfl, rfl, rfl, by decide +kernel, rfl, by decide +kernel, by decide +kernel⟩
abbrev s_require_new_name : Stmt := topS 17
theorem sc_require_new_name : FnScope ["text", "earlier"] ["text", "earlier"] (defScope s_require_new_name) := ⟨rfl, rfl, rfl, by decide +kernel, rfl, by decide +kernel, by decide +kernel⟩
abbrev s_checked_columns : Stmt := topS 18
theorem sc_checked_columns : FnScope ["columns", "known", "name"] ["columns"] (defScope s_checked_columns) := ⟨rfl, rfl, rfl, by decide +kernel, rfl, by decide +kernel, by decide +kernel⟩
abbrev s_checked_rows : Stmt := topS 19
theorem sc_checked_rows : FnScope ["columns", "kind", "states", "rows", "counts"] ["columns", "kind", "states"] (defScope s_checked_rows) := ⟨rfl, rfl, rfl, by decide +kernel, rfl, by decide +kernel, by decide +kernel⟩
abbrev s_checked_steps : Stmt := topS 20
theorem sc_checked_steps : FnScope ["size", "steps", "begun", "step", "name", "source", "target"] ["size", "steps"] (defScope s_checked_steps) := ⟨rfl, rfl, rfl, by decide +kernel, rfl, by decide +kernel, by decide +kernel⟩
abbrev s_checked_kinds : Stmt := topS 21
theorem sc_checked_kinds : FnScope ["columns", "kinds", "known", "made", "name", "states", "steps", "rows"] ["columns", "kinds"] (defScope s_checked_kinds) := ⟨rfl, rfl, rfl, by decide +kernel, rfl, by decide +kernel, by decide +kernel⟩
abbrev s_Planinit : Stmt := inClass (topS 22) 0
theorem sc_Planinit : FnScope ["self", "columns", "kinds", "checks", "check"] ["self", "columns", "kinds", "checks"] (defScope s_Planinit) := ⟨rfl, rfl, rfl, by decide +kernel, rfl, by decide +kernel, by decide +kernel⟩
abbrev s_Plan_columns : Stmt := inClass (topS 22) 1
theorem sc_Plan_columns : FnScope ["self"] ["self"] (defScope s_Plan_columns) := ⟨rfl, rfl, rfl, by decide +kernel, rfl, by decide +kernel, by decide +kernel⟩
abbrev s_Plan_kinds : Stmt := inClass (topS 22) 2
theorem sc_Plan_kinds : FnScope ["self", "name", "rows", "steps", "row"] ["self"] (defScope s_Plan_kinds) := ⟨rfl, rfl, rfl, by decide +kernel, rfl, by decide +kernel, by decide +kernel⟩
abbrev s_Plan_checks : Stmt := inClass (topS 22) 3
theorem sc_Plan_checks : FnScope ["self", "factors"] ["self"] (defScope s_Plan_checks) := ⟨rfl, rfl, rfl, by decide +kernel, rfl, by decide +kernel, by decide +kernel⟩
structure Txt (K : PySem.W.Frag) (mg : Str → Option Value) : Prop where
  d_law_well : DefAt K mg "_law_well" s_law_well ["cell", "k"]
  d_law_pick : DefAt K mg "_law_pick" s_law_pick ["well", "many"]
  d_numbers_of : DefAt K mg "numbers_of" s_numbers_of ["columns", "table"]
  d_is_name : DefAt K mg "is_name" s_is_name ["text"]
  d_require_name : DefAt K mg "require_name" s_require_name ["text"]
  d_require_new_name : DefAt K mg "require_new_name" s_require_new_name ["text", "earlier"]
  d_checked_columns : DefAt K mg "checked_columns" s_checked_columns ["columns"]
  d_checked_rows : DefAt K mg "checked_rows" s_checked_rows ["columns", "kind", "states"]
  d_checked_steps : DefAt K mg "checked_steps" s_checked_steps ["size", "steps"]
  d_checked_kinds : DefAt K mg "checked_kinds" s_checked_kinds ["columns", "kinds"]
  z_max : mg "max" = none
  z_int : mg "int" = none
  z_len : mg "len" = none
  z_range : mg "range" = none
  z_list : mg "list" = none
  z_sorted : mg "sorted" = none
  z_all : mg "all" = none
  z_repr : mg "repr" = none
  g_LETTERS : ∃ t, mg "LETTERS" = some (.str "abcdefghijklmnopqrstuvwxyz" t)
  g_MOST_LETTERS : ∃ t, mg "MOST_LETTERS" = some (.int 8 t)
end Pz
namespace Pz
open PySem L2
open PyProof.Rows (envOfC)
/-! ### payments: keyword-only parameters -/
abbrev s_payments : Stmt := topS 24
theorem sc_payments : FnScope ["numbered", "checked", "hold", "checks"] ["numbered", "checked"] (defScope s_payments) := ⟨rfl, rfl, rfl, by decide +kernel, rfl, by decide +kernel, by decide +kernel⟩
def swap2 {α : Type} : List α → List α
  | [a, b] => [b, a]
  | l => l
abbrev PyN : List Str := ["numbered", "checked"]
abbrev PyD : List (Str × V) := [("numbered", .bl true), ("checked", .bl true)]
abbrev FunPay (K : PySem.W.Frag) (f : Addr) (fd : FuncData) : Prop := FunD K "payments" "payments" (defArgs s_payments) (defBody s_payments) (defScope s_payments) [] PyD f fd
section
variable {K : PySem.W.Frag} {f : Addr} {fd : FuncData}
theorem pay_none (F : FunPay K f fd) : ∃ ds, Vals [V.bl true, V.bl true] ds ∧ Binds K fd PyN ds :=
  F.binds0 (ps := PyN) 0 (by decide) rfl fun D doc pm an cdv ct us ks l1 l2 => by
    obtain rfl : us = [] := List.eq_nil_of_length_eq_zero l1
    match ks, l2 with
    | [a, b], _ => exact ⟨_, _, _, _, _, _, rfl, rfl, _, _, _, _, _, _, rfl, rfl, rfl⟩
theorem pay_checked (F : FunPay K f fd) : ∃ mv : List Value, KBn K fd PyN 0 ["checked"] (fun _ ws => mv ++ ws) (fun _ zs => [V.bl true] ++ zs) :=
  kbinds0 (ps := PyN) F ["checked"] [("numbered", .bl true)] (fun mv ws => mv ++ ws) (by decide) (fun q hq => by rw [List.mem_singleton.mp hq]; exact List.mem_cons_self) (fun r1 r2 => r1.append r2) fun D doc pm an cdv ct mv ws l1 l2 => by
    match mv, ws, l1, l2 with
    | [a], [b], _, _ => exact ⟨_, _, _, _, _, _, rfl, rfl, rfl⟩
theorem pay_numbered (F : FunPay K f fd) : ∃ mv : List Value, KBn K fd PyN 0 ["numbered"] (fun _ ws => ws ++ mv) (fun _ zs => zs ++ [V.bl true]) :=
  kbinds0 (ps := PyN) F ["numbered"] [("checked", .bl true)] (fun mv ws => ws ++ mv) (by decide) (fun q hq => by rw [List.mem_singleton.mp hq]; exact List.mem_cons_of_mem _ List.mem_cons_self) (fun r1 r2 => r2.append r1) fun D doc pm an cdv ct mv ws l1 l2 => by
    match mv, ws, l1, l2 with
    | [a], [b], _, _ => exact ⟨_, _, _, _, _, _, rfl, rfl, rfl⟩
theorem pay_both (F : FunPay K f fd) : ∃ mv : List Value, KBn K fd PyN 0 ["numbered", "checked"] (fun _ ws => ws) (fun _ zs => zs) :=
  kbinds0 (ps := PyN) F ["numbered", "checked"] [] (fun _ ws => ws) (by decide) (fun q hq => nomatch hq) (fun _ r2 => r2) fun D doc pm an cdv ct mv ws l1 l2 => by
    match mv, ws, l1, l2 with
    | [], [a, b], _, _ => rfl
theorem vals_swap : ∀ {zs : List V} {ws : List Value}, Vals zs ws → Vals (swap2 zs) (swap2 ws)
  | _, _, .nil => .nil
  | _, _, .cons r .nil => .cons r .nil
  | _, _, .cons r (.cons r' .nil) => .cons r' (.cons r .nil)
  | _, _, .cons r (.cons r' (.cons r'' t)) => .cons r (.cons r' (.cons r'' t))
theorem pay_turned (F : FunPay K f fd) : ∃ mv : List Value, KBn K fd PyN 0 ["checked", "numbered"] (fun _ ws => swap2 ws) (fun _ zs => swap2 zs) :=
  kbinds0 (ps := PyN) F ["checked", "numbered"] [] (fun _ ws => swap2 ws) (by decide) (fun q hq => nomatch hq) (fun _ r2 => vals_swap r2) fun D doc pm an cdv ct mv ws l1 l2 => by
    match mv, ws, l1, l2 with
    | [], [a, b], _, _ => rfl
end
/-- its promise -/
structure FnPay (P : Program) (w : World) (K : PySem.W.Frag) (mg : Str → Option Value) (base : Heap) (k : Nat) (sp : Sp) : Prop where
  ex : ∃ f fd, mg "payments" = some (.ref f) ∧ FunPay K f fd ∧ FnOk P w K mg base CX0 k f fd PyN sp
section
variable {X : Cx} {k : Nat} {sp : Sp} {p pos : Pos} {kws : List Keyword} {tk : TA}
theorem pe_payments_none (F : FnPay X.prog X.w X.K X.mg X.base k sp) (hr : Room k X.A) (hg : Gl X "payments") : PE X (.Call (.Name "payments" p) [] [] pos) (tCall sp [V.bl true, V.bl true] E0 tNil) := by
  obtain ⟨f, fd, hm, D, F⟩ := F.ex
  obtain ⟨ds, hd, hb⟩ := pay_none D
  exact pe_call0 F hr hg hm D.kp hb hd (fun _ _ _ _ _ _ _ z => z.elim)
theorem pe_payments_checked (F : FnPay X.prog X.w X.K X.mg X.base k sp) (hr : Room k X.A) (hg : Gl X "payments") (hkw : PK X kws tk) (hall : (backToKw pos (keywordEach kws X.env)).all (·.1.isSome) = true := by rfl) (hks : (backToKw pos (keywordEach kws X.env)).filterMap (·.1) = (["checked"] : List Str) := by rfl)
    (hpl : ((backTo pos (starEach [] X.env)).any (·.1) || (backToKw pos (keywordEach kws X.env)).any (·.1.isNone)) = false := by rfl) : PE X (.Call (.Name "payments" p) [] kws pos) (tCallN0 1 sp (fun _ zs => [V.bl true] ++ zs) E0 tk) := by
  obtain ⟨f, fd, hm, D, F⟩ := F.ex
  obtain ⟨mv, hb⟩ := pay_checked D
  exact pe_callN0 F hr hg hm D.kp hb (fun _ _ _ _ _ _ _ z => z.elim) hkw hall hks (by decide) hpl
theorem pe_payments_numbered (F : FnPay X.prog X.w X.K X.mg X.base k sp) (hr : Room k X.A) (hg : Gl X "payments") (hkw : PK X kws tk) (hall : (backToKw pos (keywordEach kws X.env)).all (·.1.isSome) = true := by rfl) (hks : (backToKw pos (keywordEach kws X.env)).filterMap (·.1) = (["numbered"] : List Str) := by rfl)
    (hpl : ((backTo pos (starEach [] X.env)).any (·.1) || (backToKw pos (keywordEach kws X.env)).any (·.1.isNone)) = false := by rfl) : PE X (.Call (.Name "payments" p) [] kws pos) (tCallN0 1 sp (fun _ zs => zs ++ [V.bl true]) E0 tk) := by
  obtain ⟨f, fd, hm, D, F⟩ := F.ex
  obtain ⟨mv, hb⟩ := pay_numbered D
  exact pe_callN0 F hr hg hm D.kp hb (fun _ _ _ _ _ _ _ z => z.elim) hkw hall hks (by decide) hpl
theorem pe_payments_numbered_checked (F : FnPay X.prog X.w X.K X.mg X.base k sp) (hr : Room k X.A) (hg : Gl X "payments") (hkw : PK X kws tk) (hall : (backToKw pos (keywordEach kws X.env)).all (·.1.isSome) = true := by rfl) (hks : (backToKw pos (keywordEach kws X.env)).filterMap (·.1) = (["numbered", "checked"] : List Str) := by rfl)
    (hpl : ((backTo pos (starEach [] X.env)).any (·.1) || (backToKw pos (keywordEach kws X.env)).any (·.1.isNone)) = false := by rfl) : PE X (.Call (.Name "payments" p) [] kws pos) (tCallN0 2 sp (fun _ zs => zs) E0 tk) := by
  obtain ⟨f, fd, hm, D, F⟩ := F.ex
  obtain ⟨mv, hb⟩ := pay_both D
  exact pe_callN0 F hr hg hm D.kp hb (fun _ _ _ _ _ _ _ z => z.elim) hkw hall hks (by decide) hpl
theorem pe_payments_checked_numbered (F : FnPay X.prog X.w X.K X.mg X.base k sp) (hr : Room k X.A) (hg : Gl X "payments") (hkw : PK X kws tk) (hall : (backToKw pos (keywordEach kws X.env)).all (·.1.isSome) = true := by rfl) (hks : (backToKw pos (keywordEach kws X.env)).filterMap (·.1) = (["checked", "numbered"] : List Str) := by rfl)
    (hpl : ((backTo pos (starEach [] X.env)).any (·.1) || (backToKw pos (keywordEach kws X.env)).any (·.1.isNone)) = false := by rfl) : PE X (.Call (.Name "payments" p) [] kws pos) (tCallN0 2 sp (fun _ zs => swap2 zs) E0 tk) := by
  obtain ⟨f, fd, hm, D, F⟩ := F.ex
  obtain ⟨mv, hb⟩ := pay_turned D
  exact pe_callN0 F hr hg hm D.kp hb (fun _ _ _ _ _ _ _ z => z.elim) hkw hall hks (by decide) hpl
end
end Pz
namespace Pz
open PySem L2
open PyProof.Rows (envOfC)
/-! ### frames -/
/-- all but w is as it was -/
def Sm (w : Addr) (H H' : Hp) : Prop := ∀ b o, b ≠ w → H b = some o → H' b = some o
theorem Sm.refl {w : Addr} (H : Hp) : Sm w H H := fun _ _ _ h => h
theorem Sm.trans {w : Addr} {H H1 H2 : Hp} (a : Sm w H H1) (b : Sm w H1 H2) : Sm w H H2 := fun c o n h => b c o n (a c o n h)
theorem Sm.same {w : Addr} {H H' : Hp} (a : Same H H') : Sm w H H' := fun c o _ h => a c o h
theorem Sm.upd {w : Addr} {H : Hp} {o : HO} : Sm w H (upd H w o) := fun c u n h => by rw [upd_ne n]; exact h
theorem Sm.new {w p : Addr} {H H' : Hp} {o : HO} (e : Sm w H H') (h : H p = none) : Sm w H (L2.upd H' p o) := fun c u n q => by
  have hn : c ≠ p := fun z => by rw [z, h] at q; cases q
  rw [upd_ne hn]; exact e c u n q
/-- what is free behind was free ahead -/
theorem Sm.free {w p : Addr} {H H' : Hp} (e : Sm w H H') (hw : H' w ≠ none) (h : H' p = none) : H p = none := by
  cases q : H p with
  | none => rfl
  | some o =>
    by_cases z : p = w
    · subst z; exact absurd h hw
    · rw [e p o z q] at h; cases h
/-- the well: three ints; at most N draws by mixing so far -/
def Wl (H : Hp) (w : Addr) (N : Nat) : Prop := ∃ a b c : Int, H w = some (.lst [.int a, .int b, .int c]) ∧ 0 ≤ a ∧ 0 ≤ b ∧ b < 2 ^ 90 ∧ 0 ≤ c ∧ c ≤ N
theorem Wl.mono {H : Hp} {w : Addr} {N M : Nat} (h : Wl H w N) (le : N ≤ M) : Wl H w M := by
  obtain ⟨a, b, c, h1, h2, h3, h4, h5, h6⟩ := h
  exact ⟨a, b, c, h1, h2, h3, h4, h5, by omega⟩
theorem Wl.ne {H : Hp} {w : Addr} {N : Nat} (h : Wl H w N) : H w ≠ none := by
  obtain ⟨a, b, c, h1, _⟩ := h
  rw [h1]; exact fun q => nomatch q
theorem Wl.same {H H' : Hp} {w : Addr} {N : Nat} (h : Wl H w N) (e : Same H H') : Wl H' w N := by
  obtain ⟨a, b, c, h1, h2⟩ := h
  exact ⟨a, b, c, e _ _ h1, h2⟩
theorem Wl.new {H : Hp} {w p : Addr} {N : Nat} {o : HO} (h : Wl H w N) (hp : H p = none) : Wl (upd H p o) w N := h.same (same_upd hp)
/-- another object is written -/
theorem Wl.put {H : Hp} {w p : Addr} {N : Nat} {o : HO} (h : Wl H w N) (hp : p ≠ w) : Wl (upd H p o) w N := by
  obtain ⟨a, b, c, h1, h2⟩ := h
  exact ⟨a, b, c, by rw [upd_ne (Ne.symm hp)]; exact h1, h2⟩

section
variable {K : PySem.W.Frag} {H : Hp} {Q : VK}
theorem rdL {p : Addr} {xs : List V} {i : Int} {v : V} (h : H p = some (.lst xs)) (ha : atI xs i = some v) (q : Q v H) : rIxL K (.ref p) (.int i) H Q := ⟨p, xs, i, v, rfl, rfl, SqL.of h, ha, q⟩
theorem rdT {p : Addr} {xs : List V} {i : Int} {v : V} (h : H p = some (.tup xs)) (ha : atI xs i = some v) (q : Q v H) : rIxT K (.ref p) (.int i) H Q := ⟨p, xs, i, v, rfl, rfl, SqT.of h, ha, q⟩
end

theorem draw_mod (x n : Int) (h : 0 < n) : 0 ≤ x % n ∧ x % n < n := ⟨Int.emod_nonneg _ (by omega), Int.emod_lt_of_pos _ h⟩
theorem natAbs_lt {i : Int} {b : Nat} (h0 : 0 ≤ i) (h : i < (2 : Int) ^ b) : i.natAbs < 2 ^ b := by
  have h2 : ((i.natAbs : Nat) : Int) = i := Int.natAbs_of_nonneg h0
  have h3 : ((2 ^ b : Nat) : Int) = (2 : Int) ^ b := by norm_cast
  omega
/-! ### _law_well, _law_pick (k39 and the books) -/
def spWell : Sp := fun vs H Q _ => ∃ (cell : Int) (k : Int), vs = [.int cell, .int k] ∧ 0 ≤ k ∧ k ≤ 100 ∧ ∀ (p : Addr) (H' : Hp), H p = none → Same H H' → Wl H' p 1 → Q (.ref p) H'
def spPick : Sp := fun vs H Q _ => ∃ (w : Addr) (n : Int) (N : Nat), vs = [.ref w, .int n] ∧ Wl H w N ∧ N ≤ 1000000000 ∧ 0 < n ∧ n < 2 ^ 100 ∧
  ∀ (r : Int) (H' : Hp), 0 ≤ r → r < n → Sm w H H' → Wl H' w (N + 2) → Q (.int r) H'
section
variable {P : Program} {w : World} {K : PySem.W.Frag} {mg : Str → Option Value} {base : Heap}
theorem p24 : (0 : Int) < (10 : Int) ^ (24 : Int).toNat + 7 := by decide +kernel
theorem p26 : (0 : Int) < (10 : Int) ^ (26 : Int).toNat + 67 := by decide +kernel
theorem ok_law_well (T : Txt K mg) : Fn P w K mg base 1 "_law_well" ["cell", "k"] spWell := by
  refine T.d_law_well.fn sc_law_well (fun vs H Q E h => ?_) (fun cdv A outer f s H vs Q E hr h => ?_)
  · obtain ⟨cell, k, rfl, _⟩ := h; rfl
  · obtain ⟨cell, k, rfl, k0, k1, q⟩ := h
    refine ⟨_, (pss_cons (ps_set (i := 2) sc_law_well.nd rfl (Or.inl rfl) (pe_callB (call_max2 rfl) (by rfl) T.z_max (by decide +kernel) (pa_cons (pv 0) (pa_cons (pe_op op_sub pe_int (pv 0)) pa_nil)))) (pss_one (ps_ret (pe_lst (pa_cons (pe_callB (call_max2 rfl) (by rfl) T.z_max (by decide +kernel) (pa_cons pe_int (pa_cons (pe_op op_sub (pv 2) (pe_op op_pow pe_int pe_int)) pa_nil))) (pa_cons (pe_op op_mod (pe_callTy call_int1 (by rfl) T.z_int (by decide +kernel) (pa_cons (pe_op op_add (pe_op op_mul (pv 0) pe_int) (pe_op op_mul (pe_op op_add (pv 1) pe_int) pe_int)) pa_nil)) (pe_op op_add (pe_op op_pow pe_int pe_int) pe_int)) (pa_cons (pe_callTy call_int1 (by rfl) T.z_int (by decide +kernel) (pa_cons (pe_cmpR op_lt (pv 0) pe_int (nomark _)) pa_nil)) pa_nil))))))), ?_⟩
    refine ⟨_, rfl, _, rfl, _, _, rfl, rfl, _, _, rfl, ?_⟩
    refine ⟨_, rfl, _, _, rfl, rfl, ⟨by decide, by decide, by decide⟩, _, _, rfl, rfl, _, _, rfl, _, rfl, _, _, rfl, rfl, .inr ⟨by decide, by decide⟩, _, rfl, _, _, rfl, rfl, _, _, rfl, rfl, .inr ⟨by decide, by decide⟩, _, _, rfl, rfl, .inl ⟨_, rfl, ?_⟩⟩
    refine ⟨_, _, rfl, rfl, ⟨by decide, by decide, by decide⟩, _, _, rfl, rfl, _, _, rfl, rfl, p24, _, rfl, _, _, rfl, rfl, .inr ⟨_, rfl, (show 3 ≤ sizeLine by decide), fun p hp => ?_⟩⟩
    refine q p _ hp (same_upd hp) ⟨_, _, _, upd_same, ?_, ?_, ?_, ?_, ?_⟩
    · split <;> omega
    · exact Int.emod_nonneg _ (by decide +kernel)
    · refine Int.lt_trans (Int.emod_lt_of_pos _ (by decide +kernel)) ?_
      decide +kernel
    · split <;> decide
    · split <;> decide
theorem ok_law_pick (T : Txt K mg) : Fn P w K mg base 1 "_law_pick" ["well", "many"] spPick := by
  refine T.d_law_pick.fn sc_law_pick (fun vs H Q E h => ?_) (fun cdv A outer f s H vs Q E hr h => ?_)
  · obtain ⟨w, n, N, rfl, _⟩ := h; rfl
  · obtain ⟨w, n, N, rfl, ⟨a, b, c, hw, a0, b0, b1, c0, c1⟩, hN, n0, n1, q⟩ := h
    have nb : n.natAbs < 2 ^ 100 := natAbs_lt (by omega) n1
    refine ⟨_, (pss_cons (ps_if (pt_cmpR op_gt (pe_ix ix_list (pv 0) pe_int (fun _ _ => rfl)) pe_int (nomark _)) (pss_cons (ps_set (i := 2) sc_law_pick.nd rfl (Or.inl rfl) (pe_op op_mod (pe_callTy call_int1 (by rfl) T.z_int (by decide +kernel) (pa_cons (pe_ix ix_list (pv 0) pe_int (fun _ _ => rfl)) pa_nil)) (pv 1))) (pss_cons (ps_asg (pe_op op_fdivW (pe_ix ix_list (pv 0) pe_int (fun _ _ => rfl)) (pv 1)) (pg_sub (pv 0) pe_int set_list)) (pss_one (ps_ret (pv 2))))) pss_nil) (pss_cons (ps_asg (pe_op op_add (pe_ix ix_list (pv 0) pe_int (fun _ _ => rfl)) pe_int) (pg_sub (pv 0) pe_int set_list)) (pss_cons (ps_set (i := 3) sc_law_pick.nd rfl (Or.inl rfl) (pe_op op_mod (pe_callTy call_int1 (by rfl) T.z_int (by decide +kernel) (pa_cons (pe_op op_powW (pe_op op_add (pe_ix ix_list (pv 0) pe_int (fun _ _ => rfl)) (pe_op op_mul (pe_ix ix_list (pv 0) pe_int (fun _ _ => rfl)) pe_int)) pe_int) pa_nil)) (pe_op op_add (pe_op op_pow pe_int pe_int) pe_int))) (pss_cons (ps_set (i := 3) sc_law_pick.nd rfl (Or.inl rfl) (pe_op op_add (pe_op op_powW (pv 3) pe_int) (pe_op op_fdivW (pv 3) pe_int))) (pss_one (ps_ret (pe_op op_mod (pe_callTy call_int1 (by rfl) T.z_int (by decide +kernel) (pa_cons (pe_op op_fdivW (pv 3) pe_int) pa_nil)) (pv 1)))))))), ?_⟩
    refine ⟨_, rfl, w, _, _, _, rfl, rfl, SqL.of hw, rfl, _, _, rfl, rfl, _, rfl, ?_⟩
    refine ite2 (fun ha => ?_) (fun ha => ?_)
    · refine ⟨_, rfl, w, _, _, _, rfl, rfl, SqL.of hw, rfl, .inl ⟨_, rfl, ?_⟩⟩
      refine ⟨_, rfl, _, _, rfl, rfl, n0, ?_⟩
      refine ⟨_, rfl, w, _, _, _, rfl, rfl, SqL.of hw, rfl, _, rfl, _, _, rfl, rfl, wide_div n0 nb (by decide) (by decide), _, rfl, w, _, _, _, rfl, rfl, hw, rfl, ?_⟩
      refine ⟨_, rfl, ?_⟩
      refine q _ _ (draw_mod _ _ n0).1 (draw_mod _ _ n0).2 Sm.upd ⟨_, _, _, upd_same, ?_, b0, b1, c0, by omega⟩
      exact Int.ediv_nonneg a0 (by omega)
    · refine ⟨_, rfl, w, _, _, _, rfl, rfl, SqL.of hw, rfl, _, _, rfl, rfl, _, rfl, w, _, _, _, rfl, rfl, hw, rfl, ?_⟩
      have hw2 : upd H w (.lst ([V.int a, V.int b, V.int c].set 2 (V.int (c + 2)))) w = some (.lst [.int a, .int b, .int (c + 2)]) := upd_same
      have hx : (b + (c + 2) * 49979687).natAbs < 2 ^ 91 := natAbs_lt (by omega) (by omega)
      refine ⟨_, rfl, w, _, _, _, rfl, rfl, SqL.of hw2, rfl, _, rfl, w, _, _, _, rfl, rfl, SqL.of hw2, rfl, _, _, rfl, rfl, .inr ⟨by decide, by decide⟩, _, _, rfl, rfl, _, _, rfl, rfl, cpw_of (by decide) (by decide) hx (by decide), .inl ⟨_, rfl, ?_⟩⟩
      refine ⟨_, _, rfl, rfl, ⟨by decide, by decide, by decide⟩, _, _, rfl, rfl, _, _, rfl, rfl, p26, ?_⟩
      have hm0 : 0 ≤ (b + (c + 2) * 49979687) ^ (3 : Int).toNat % (10 ^ (26 : Int).toNat + 67) := Int.emod_nonneg _ (by decide +kernel)
      have hm1 : (b + (c + 2) * 49979687) ^ (3 : Int).toNat % (10 ^ (26 : Int).toNat + 67) < 2 ^ 94 := Int.lt_trans (Int.emod_lt_of_pos _ p26) (by decide +kernel)
      have hmb := natAbs_lt hm0 hm1
      refine ⟨_, rfl, _, _, rfl, rfl, cpw_of (by decide) (by decide) hmb (by decide), _, rfl, _, _, rfl, rfl, wide_div (b := 90) (by decide) (by decide) (by decide) (by decide), _, _, rfl, rfl, ?_⟩
      refine ⟨_, rfl, _, _, rfl, rfl, wide_div (b := 90) (by decide) (by decide) (by decide) (by decide), .inl ⟨_, rfl, ?_⟩⟩
      refine ⟨_, rfl, _, _, rfl, rfl, n0, ?_⟩
      exact q _ _ (draw_mod _ _ n0).1 (draw_mod _ _ n0).2 Sm.upd ⟨_, _, _, hw2, a0, b0, b1, by omega, by omega⟩
end
end Pz
namespace Pz
open PySem L2
open PyProof.Rows (envOfC)
/-! ### names -/
abbrev LET : List Nat := ("abcdefghijklmnopqrstuvwxyz" : Str).cps.toList
def isNm (s : Str) : Bool := decide (1 ≤ s.length) && decide (s.length ≤ 8) && s.cps.toList.all fun c => decide (c ∈ LET)
theorem isNm_len {s : Str} (h : isNm s = true) : 1 ≤ s.length ∧ s.length ≤ 8 := by
  unfold isNm at h
  simp only [Bool.and_eq_true, decide_eq_true_eq] at h
  exact h.1
theorem nm_ok {s : Str} (h : isNm s = true) : PyData.strOk s = true := by
  unfold isNm at h
  simp only [Bool.and_eq_true, decide_eq_true_eq, List.all_eq_true] at h
  have key : ∀ c ∈ LET, c < 0x110000 := by decide +kernel
  have : ∀ c ∈ s.cps.toList, c < 0x110000 := fun c hc => key c (h.2 c hc)
  unfold PyData.strOk
  rw [← Array.all_toList, List.all_eq_true]
  exact fun c hc => decide_eq_true (this c hc)
theorem eqV_str (a b : Str) : eqV (.str a) (.str b) = decide (a = b) := by
  show (a == b) = _
  by_cases h : a = b
  · subst h; simp
  · rw [decide_eq_false h]; exact beq_eq_false_iff_ne.mpr h
theorem inV_strs (s : Str) : ∀ xs : List Str, inV (.str s) (xs.map V.str) = decide (s ∈ xs)
  | [] => by simp [inV]
  | x :: xs => by
    have ih := inV_strs s xs
    unfold inV at ih ⊢
    rw [List.map_cons, List.any_cons, ih, eqV_str]
    by_cases h : x = s
    · subst h; simp
    · rw [decide_eq_false h, Bool.false_or]
      by_cases h2 : s ∈ xs
      · simp [h2]
      · simp [h2, Ne.symm h]
theorem flat_strs (xs : List Str) : (xs.map V.str).all flatV = true := by
  rw [List.all_map, List.all_eq_true]
  exact fun _ _ => rfl
/-- a dict whose keys are names -/
def eNames (xs : List Str) : List (Key × V) := xs.map fun x => (Sum.inr x, V.bl true)
theorem valV_eNames (z : Str) : ∀ xs : List Str, (valV (eNames xs) (Sum.inr z)).isSome = decide (z ∈ xs)
  | [] => by simp [eNames, valV]
  | x :: xs => by
    have ih := valV_eNames z xs
    by_cases h : x = z
    · have e : valV (eNames (x :: xs)) (Sum.inr z) = some (V.bl true) := valV_pos (by rw [h])
      rw [e, h]; simp
    · have e : valV (eNames (x :: xs)) (Sum.inr z) = valV (eNames xs) (Sum.inr z) := valV_neg (p := (Sum.inr x, V.bl true)) (by simpa using h)
      rw [e, ih]
      by_cases h2 : z ∈ xs
      · simp [h2]
      · simp [h2, Ne.symm h]
theorem putK_eNames {xs : List Str} {z : Str} (h : z ∉ xs) : putK (eNames xs) (Sum.inr z) (V.bl true) = eNames (xs ++ [z]) := by
  rw [putK_new, eNames, eNames, List.map_append]
  · rfl
  · have := valV_eNames z xs
    rw [decide_eq_false h] at this
    cases q : valV (eNames xs) (Sum.inr z) with
    | none => rfl
    | some u => rw [q] at this; cases this
theorem keys_eNames (xs : List Str) : (eNames xs).map (fun kv => kV kv.1) = xs.map V.str := by
  unfold eNames
  rw [List.map_map]
  rfl
theorem len_eNames (xs : List Str) : (eNames xs).length = xs.length := by simp [eNames]
section
variable {P : Program} {w : World} {K : PySem.W.Frag} {mg : Str → Option Value} {base : Heap}
def spIsName : Sp := fun vs H Q _ => ∃ s : Str, vs = [.str s] ∧ s.length ≤ 100000 ∧ ∀ H', Same H H' → Q (.bl (isNm s)) H'
theorem ok_is_name (T : Txt K mg) : Fn P w K mg base 1 "is_name" ["text"] spIsName := by
  obtain ⟨tL, hL⟩ := T.g_LETTERS
  obtain ⟨tM, hM⟩ := T.g_MOST_LETTERS
  refine T.d_is_name.fn sc_is_name (fun vs H Q E h => ?_) (fun cdv A outer f s H vs Q E hr h => ?_)
  · obtain ⟨_, rfl, _⟩ := h; rfl
  · obtain ⟨z, rfl, hz, q⟩ := h
    refine ⟨_, (pss_one (ps_ret (pe_and (pe_chain op_le op_le pe_int (pe_callB call_len_str (by rfl) T.z_len (by decide +kernel) (pa_cons (pv 0) pa_nil)) (pe_glob (v := .int 8) rfl hM ⟨_, rfl⟩)) (pe_one (pe_callB (cr_all rfl) (by rfl) T.z_all (by decide +kernel) (pa_cons (pe_lc (own := [("sign", 1)]) (g := gName 1) (by rfl) sc_is_name.nd (pi_str (pv 0)) (blkOk_by (own := [("sign", 1)]) (N := ["text", "sign"]) (sc := defScope s_is_name) (by decide +kernel)) (fun _ _ _ _ _ => pg_name (i := 1) sc_is_name.nd rfl (by first | exact Or.inl rfl | exact Or.inr rfl)) (fun _ _ _ _ _ => pts_nil) (fun _ _ _ _ _ => (pe_cmpR op_in_sign (pv 1) (pe_glob (v := .str "abcdefghijklmnopqrstuvwxyz") rfl hL ⟨_, rfl⟩) (by rfl)))) pa_nil)))))), ?_⟩
    refine ⟨_, rfl, _, rfl, Nat.le_trans hz (by decide), _, _, rfl, rfl, _, rfl, ?_⟩
    have no : ∀ H', Same H H' → ¬ ((1 : Int) ≤ (z.length : Int) ∧ (z.length : Int) ≤ 8) → Q (.bl false) H' := fun H' s1 hn => by
      have e : isNm z = false := by
        unfold isNm
        rw [show (decide (1 ≤ z.length) && decide (z.length ≤ 8)) = false from ?_]
        · rfl
        · rw [← Bool.not_eq_true, Bool.and_eq_true, decide_eq_true_eq, decide_eq_true_eq]
          omega
      rw [← e]
      exact q H' s1
    refine ite2 (fun c1 => ?_) (fun c1 => ?_)
    · have c1' : (1 : Int) ≤ (z.length : Int) := by simpa using c1
      refine ⟨_, _, rfl, rfl, _, rfl, ?_⟩
      refine ite2 (fun c2 => ?_) (fun c2 => ?_)
      · have c2' : (z.length : Int) ≤ 8 := by simpa using c2
        refine ⟨_, rfl, _, rfl, fun D hD => ?_⟩
        refine lc_it walk_str (fun i H' => (∀ b o, b ≠ D → H b = some o → H' b = some o) ∧ H' D = some (.lst ((z.cps.toList.take i).map fun c => V.bl (decide (c ∈ LET)))))
          ⟨fun b o n e => by rw [upd_ne n]; exact e, upd_same⟩ (fun _ _ _ _ => trivial) ?_ ?_
        · rintro i x H1 H2 hi ⟨s1, hD1⟩ ⟨rfl, c, hc, rfl⟩
          refine ⟨rfl, ?_⟩
          refine ⟨_, rfl, c, _, rfl, rfl, _, hD1, ?_, ?_, ?_⟩
          · rw [List.length_map, List.length_take]
            have : z.cps.toList.length = z.length := by simp [Str.length]
            exact small1000 (by omega)
          · exact fun b o n e => by rw [upd_ne n]; exact s1 b o n e
          · rw [upd_same, List.take_add_one, List.map_append]
            have e2 : z.cps.toList[i]? = some c := by simpa using hc
            rw [e2]
            rfl
        · rintro H1 ⟨s1, hD1⟩
          rw [List.take_of_length_le (by simp)] at hD1
          refine ⟨D, z.cps.toList.map fun c => decide (c ∈ LET), rfl, SqL.of (by rw [hD1, List.map_map]; rfl), ?_⟩
          have e : (z.cps.toList.map fun c => decide (c ∈ LET)).all id = isNm z := by
            unfold isNm
            rw [decide_eq_true (by omega), decide_eq_true (by omega), List.all_map]
            rfl
          rw [e]
          refine q H1 fun b o e => ?_
          exact s1 b o (fun z => by rw [z, hD] at e; cases e) e
      · exact no H (Same.refl H) (fun h => c2 (by simpa using h.2))
    · refine ⟨_, rfl, ?_⟩
      exact no H (Same.refl H) (fun h => c1 (by simpa using h.1))
def spReqName : Sp := fun vs H Q _ => ∃ s : Str, vs = [.str s] ∧ isNm s = true ∧ ∀ H', Same H H' → Q .non H'
theorem ok_require_name (T : Txt K mg) : Fn P w K mg base 2 "require_name" ["text"] spReqName := by
  have G_is_name := ok_is_name (P := P) (w := w) (base := base) T
  refine T.d_require_name.fn sc_require_name (fun vs H Q E h => ?_) (fun cdv A outer f s H vs Q E hr h => ?_)
  · obtain ⟨_, rfl, _⟩ := h; rfl
  · obtain ⟨z, rfl, hn, q⟩ := h
    refine ⟨_, (pss_one (ps_if (pt_not (pt_val (pe_fn G_is_name (hr.mono (by decide)) (by rfl) (pa_cons (pv 0) pa_nil)))) (pss_one ps_never) pss_nil)), ?_⟩
    refine ⟨_, rfl, z, rfl, Nat.le_trans (isNm_len hn).2 (by decide), fun H1 s1 => ⟨_, rfl, ?_⟩⟩
    rw [hn]
    exact q H1 s1
end
end Pz
namespace Pz
open PySem L2
open PyProof.Rows (envOfC)
section
variable {P : Program} {w : World} {K : PySem.W.Frag} {mg : Str → Option Value} {base : Heap}
def spReqNew : Sp := fun vs H Q _ => ∃ (s : Str) (a : Addr) (ear : List Str), vs = [.str s, .ref a] ∧ isNm s = true ∧ H a = some (.dK (eNames ear)) ∧ s ∉ ear ∧ ∀ H', Same H H' → Q .non H'
theorem ok_require_new_name (T : Txt K mg) : Fn P w K mg base 3 "require_new_name" ["text", "earlier"] spReqNew := by
  have G_require_name := ok_require_name (P := P) (w := w) (base := base) T
  refine T.d_require_new_name.fn sc_require_new_name (fun vs H Q E h => ?_) (fun cdv A outer f s H vs Q E hr h => ?_)
  · obtain ⟨_, _, _, rfl, _⟩ := h; rfl
  · obtain ⟨z, a, ear, rfl, hn, ha, hin, q⟩ := h
    refine ⟨_, (pss_cons (ps_expr (pe_fn G_require_name (hr.mono (by decide)) (by rfl) (pa_cons (pv 0) pa_nil))) (pss_one (ps_if (pt_cmp (pc_din (hu_of hr) (pv 0) (pv 1))) (pss_one ps_never) pss_nil))), ?_⟩
    refine ⟨_, rfl, z, rfl, hn, fun H1 s1 => ?_⟩
    refine ⟨_, rfl, _, rfl, a, _, rfl, DGet.k (k := Sum.inr z) (s1 _ _ ha), _, rfl, ?_⟩
    rw [valV_eNames, decide_eq_false hin]
    exact q H1 s1
def spColumns : Sp := fun vs H Q _ => ∃ (a : Addr) (cols : List Str), vs = [.ref a] ∧ H a = some (.lst (cols.map V.str)) ∧ cols.Nodup ∧ cols.length ≤ 100 ∧ (∀ c ∈ cols, isNm c = true) ∧
  ∀ p H', H p = none → Same H H' → H' p = some (.lst (cols.map V.str)) → Q (.ref p) H'
theorem ok_checked_columns (T : Txt K mg) : Fn P w K mg base 4 "checked_columns" ["columns"] spColumns := by
  have G_require_new_name := ok_require_new_name (P := P) (w := w) (base := base) T
  refine T.d_checked_columns.fn sc_checked_columns (fun vs H Q E h => ?_) (fun cdv A outer f s H vs Q E hr h => ?_)
  · obtain ⟨_, _, rfl, _⟩ := h; rfl
  · obtain ⟨a, cols, rfl, ha, hnd, hlen, hnm, q⟩ := h
    refine ⟨_, (pss_cons (ps_set (i := 1) sc_checked_columns.nd rfl (Or.inl rfl) pe_dnewK) (pss_cons (ps_for PassesOwn.never rfl (pi_list (pv 0)) (pg_name (i := 2) sc_checked_columns.nd rfl (Or.inl rfl)) (pss_cons (ps_expr (pe_fn G_require_new_name (hr.mono (by decide)) (by rfl) (pa_cons (pv 2) (pa_cons (pv 1) pa_nil)))) (pss_one (ps_dput (hu_of hr) (pv 1) (pv 2) pe_bl rfl)))) (pss_one (ps_ret (pe_callTy (call_listD rfl) (by rfl) T.z_list (by decide +kernel) (pa_cons (pv 1) pa_nil)))))), ?_⟩
    intro D hD
    have naD : a ≠ D := ne_of_none ha hD
    refine ⟨_, rfl, a, rfl, ⟨_, SqL.of (by rw [upd_ne naD]; exact ha)⟩, for_list (K := K) (a := a) (xs := cols.map V.str)
      (fun i σ H' => ∃ v, σ = [some (.ref a), some (.ref D), v] ∧ Same H H' ∧ H' D = some (.dK (eNames (cols.take i))))
      ⟨_, rfl, same_upd hD, upd_same⟩ (fun i σ H' _ ⟨_, _, s1, _⟩ => SqL.of (s1 _ _ ha)) ?_ ?_⟩
    · rintro i x σ H' hx ⟨v, rfl, s1, hD1⟩
      rw [List.getElem?_map] at hx
      obtain ⟨c, hc, rfl⟩ := Option.map_eq_some_iff.mp hx
      have hi := (List.getElem?_eq_some_iff.mp hc).1
      have nin : c ∉ cols.take i := by
        intro hm
        obtain ⟨j, hj, ej⟩ := List.mem_take_iff_getElem.mp hm
        have := nodup_ix hnd (List.getElem?_eq_getElem (show j < cols.length by omega)) (by rw [ej]; exact hc)
        omega
      refine ⟨_, rfl, _, rfl, c, D, _, rfl, hnm c (List.mem_of_getElem? hc), hD1, nin, fun H2 s2 => ?_⟩
      refine ⟨_, rfl, _, rfl, D, _, rfl, DPut.k (k := Sum.inr c) (s2 _ _ hD1) ?_, ?_⟩
      · rw [len_eNames, List.length_take]; exact small1000 (by omega)
      refine ⟨_, rfl, ?_, ?_⟩
      · exact fun b o e => by rw [upd_ne (ne_of_none e hD)]; exact s2 _ _ (s1 _ _ e)
      · rw [upd_same, putK_eNames nin, List.take_add_one, hc]; rfl
    · rintro σ H' ⟨v, rfl, s1, hD1⟩
      rw [List.length_map, List.take_of_length_le (Nat.le_refl _)] at hD1
      refine ⟨_, rfl, D, _, rfl, .inl hD1, fun p hp => ?_⟩
      rw [keys_eNames]
      exact q p _ (same_none s1 hp) (s1.trans (same_upd hp)) upd_same
end
end Pz
namespace Pz
open PySem L2
open PyProof.Rows (envOfC)
/-! ### sums read, kinds -/
structure KD where
  name : Str
  rows : List (List Int)
  sums : List (List (Str × Int))
  steps : List (Str × Int × Int)
def zeros (cols : List Str) : List Int := List.replicate cols.length 0
/-- a sum over the columns: its dict -/
def GoodS (cols : List Str) (tb : List (Str × Int)) : Prop := tb.length < 64 ∧ ∀ p ∈ tb, p.1 ∈ cols
structure GoodC (cols : List Str) : Prop where
  nd : cols.Nodup
  len : cols.length ≤ 20
  nm : ∀ c ∈ cols, isNm c = true
structure GoodK (cols : List Str) (k : KD) : Prop where
  nm : isNm k.name = true
  ne : 0 < k.sums.length
  len : k.sums.length ≤ 40
  sums : ∀ tb ∈ k.sums, GoodS cols tb
  rows : k.rows = k.sums.map fun tb => cols.map (look tb)
  zero : k.rows[0]? = some (zeros cols)
  slen : k.steps.length ≤ 40
  stp : ∀ s ∈ k.steps, isNm s.1 = true ∧ 0 ≤ s.2.1 ∧ s.2.1 < k.sums.length ∧ 0 ≤ s.2.2 ∧ s.2.2 < k.sums.length
  snd : (k.steps.map fun s => (s.1, s.2.1)).Nodup
def dKind (k : KD) : PyData := .tuple [.str k.name, dRows k.rows, .list (k.steps.map dStep)]
/-- a kind as it is passed: in the heap, its steps' tuples in the frozen part -/
def HK (F H : Hp) (k : KD) (v : V) : Prop := ∃ t st sp xs, v = .ref t ∧ H t = some (.tup [.str k.name, .ref st, .ref sp]) ∧ R H (.list (k.sums.map dSum)) (.ref st) ∧ H sp = some (.lst xs) ∧ RA F (k.steps.map dStep) xs
theorem HK.mono {F F' H H' : Hp} {k : KD} {v : V} (h : HK F H k v) (f : Same F F') (e : Same H H') : HK F' H' k v := by
  obtain ⟨t, st, sp, xs, rfl, h1, h2, h3, h4⟩ := h
  exact ⟨t, st, sp, xs, rfl, e _ _ h1, R.mono e _ _ h2, e _ _ h3, RA.mono f _ _ h4⟩
def HKs (F H : Hp) (ks : List KD) (xs : List V) : Prop := xs.length = ks.length ∧ ∀ (i : Nat) (k : KD) (x : V), ks[i]? = some k → xs[i]? = some x → HK F H k x
theorem HKs.mono {F F' H H' : Hp} {ks : List KD} {xs : List V} (h : HKs F H ks xs) (f : Same F F') (e : Same H H') : HKs F' H' ks xs := ⟨h.1, fun i k x a b => (h.2 i k x a b).mono f e⟩
section
variable {P : Program} {w : World} {K : PySem.W.Frag} {mg : Str → Option Value} {base : Heap}
def spNumbersOf : Sp := fun vs H Q _ => ∃ (c t : Addr) (cols : List Str) (tb : List (Str × Int)), vs = [.ref c, .ref t] ∧ H c = some (.lst (cols.map V.str)) ∧ H t = some (.dK (eSum tb)) ∧ cols.length ≤ 20 ∧ GoodS cols tb ∧
  ∀ (p : Addr) (H' : Hp), H p = none → Same H H' → H' p = some (.lst ((cols.map (look tb)).map V.int)) → Q (.ref p) H'
theorem ok_numbers_of (T : Txt K mg) : Fn P w K mg base 1 "numbers_of" ["columns", "table"] spNumbersOf := by
  refine T.d_numbers_of.fn sc_numbers_of (fun vs H Q E h => ?_) (fun cdv A outer f s H vs Q E hr h => ?_)
  · obtain ⟨_, _, _, _, rfl, _⟩ := h; rfl
  · obtain ⟨c, t, cols, tb, rfl, hc, ht, hlen, ⟨hl, hk⟩, q⟩ := h
    refine ⟨_, (pss_cons (ps_for PassesOwn.never rfl (pi_list (pe_callB (call_sortedD rfl) (by rfl) T.z_sorted (by decide +kernel) (pa_cons (pv 1) pa_nil))) (pg_name (i := 2) sc_numbers_of.nd rfl (Or.inl rfl)) (pss_one (ps_if (pt_cmpR op_notIn_seq (pv 2) (pv 0) (by rfl)) (pss_one ps_never) pss_nil))) (pss_one (ps_ret (pe_lc (own := [("column", 2)]) (g := gName 2) (by rfl) sc_numbers_of.nd (pi_list (pv 0)) (blkOk_by (own := [("column", 2)]) (N := ["columns", "table", "column"]) (sc := defScope s_numbers_of) (by decide +kernel)) (fun _ _ _ _ _ => pg_name (i := 2) sc_numbers_of.nd rfl (by first | exact Or.inl rfl | exact Or.inr rfl)) (fun _ _ _ _ _ => pts_nil) (fun _ _ _ _ _ => (pe_dget2 (hu_of hr) (pv 1) (pv 2) pe_int ⟨rfl, rfl, rfl, rfl⟩)))))), ?_⟩
    refine ⟨_, rfl, t, eSum tb, tb.map (·.1), rfl, .inl ht, by simp [eSum], by simpa using hl, fun ys p perm _ hp => ?_⟩
    refine ⟨p, rfl, ⟨_, SqL.of upd_same⟩, for_list (K := K) (a := p) (xs := ys.map V.str) (fun i σ H' => ∃ v, σ = [some (.ref c), some (.ref t), v] ∧ H' = upd H p (.lst (ys.map V.str)))
      ⟨_, rfl, rfl⟩ (fun i σ H' _ ⟨_, _, e⟩ => SqL.of (by rw [e]; exact upd_same)) ?_ ?_⟩
    · rintro i x σ H' hx ⟨v, rfl, rfl⟩
      rw [List.getElem?_map] at hx
      obtain ⟨y, hy, rfl⟩ := Option.map_eq_some_iff.mp hx
      have hmem : y ∈ cols := by
        have h1 := perm.mem_iff.mp (List.mem_of_getElem? hy)
        obtain ⟨q, hq, rfl⟩ := List.mem_map.mp h1
        exact hk q hq
      refine ⟨_, rfl, _, rfl, c, _, rfl, .inl (SqL.of (same_upd hp _ _ hc)), rfl, flat_strs cols, _, rfl, ?_⟩
      rw [inV_strs, decide_eq_true hmem]
      exact ⟨_, rfl, rfl⟩
    · rintro σ H' ⟨v, rfl, rfl⟩
      have s1 : Same H (upd H p (.lst (ys.map V.str))) := same_upd hp
      refine ⟨_, rfl, c, rfl, ⟨_, SqL.of (s1 _ _ hc)⟩, fun D hD => ?_⟩
      refine lc_data (K := K) (a := c) (xs := cols.map V.str) (F0 := fun _ => none) ((cols.map (look tb)).map .int) (by simp) (by rw [List.length_map]; omega) (SqL.of (s1 _ _ hc)) hD (fun b o z => by cases z) (fun i x d F' H' Q' hx hd s2 gr _ _ k => ?_) (fun F' H' ys' s2 _ _ ra hD' => ?_)
      · rw [List.getElem?_map] at hx
        obtain ⟨y, hy, rfl⟩ := Option.map_eq_some_iff.mp hx
        rw [List.map_map, List.getElem?_map, hy] at hd
        cases hd
        have ht2 := s2 _ _ (s1 _ _ ht)
        refine ⟨rfl, _, rfl, t, rfl, .inl ⟨_, .inl ht2⟩, _, rfl, _, DGet.k (k := Sum.inr y) ht2, ?_⟩
        have e : (valV (eSum tb) (Sum.inr y)).getD (V.int 0) = V.int (look tb y) := valV_eSum y tb
        rw [e]
        exact k _ _ _ (Same.refl _) (Gr.refl gr.sub) (by show R F' (.int (look tb y)) (.int (look tb y)); simp only [R])
      · rw [RA.ints_eq ra] at hD'
        exact q D H' (same_none s1 hD) (s1.trans s2) hD'
def spRows : Sp := fun vs H Q _ => ∃ (c st : Addr) (cols : List Str) (nm : Str) (sums : List (List (Str × Int))) (F : Hp), vs = [.ref c, .str nm, .ref st] ∧ H c = some (.lst (cols.map V.str)) ∧ R H (.list (sums.map dSum)) (.ref st) ∧ cols.length ≤ 20 ∧
  0 < sums.length ∧ sums.length ≤ 40 ∧ (∀ tb ∈ sums, GoodS cols tb) ∧ (∀ tb, sums[0]? = some tb → cols.map (look tb) = zeros cols) ∧ Same F H ∧
  ∀ (p : Addr) (H' F' : Hp), H p = none → Same H H' → Gr F H F' H' → R F' (dRows (sums.map fun tb => cols.map (look tb))) (.ref p) → Q (.ref p) H'
theorem ok_checked_rows (T : Txt K mg) : Fn P w K mg base 2 "checked_rows" ["columns", "kind", "states"] spRows := by
  have G_numbers_of := ok_numbers_of (P := P) (w := w) (base := base) T
  refine T.d_checked_rows.fn sc_checked_rows (fun vs H Q E h => ?_) (fun cdv A outer f s H vs Q E hr h => ?_)
  · obtain ⟨_, _, _, _, _, _, rfl, _⟩ := h; rfl
  · obtain ⟨c, st, cols, nm, sums, F, rfl, hc, hst, hlen, hne, hsl, hg, hz, sF, q⟩ := h
    refine ⟨_, (pss_cons (ps_if (pt_not (pt_truth (pv 2) (by intro _; rfl))) (pss_one ps_never) pss_nil) (pss_cons (ps_setLc (i := 3) (own := [("counts", 4)]) (g := gName 4) (by rfl) sc_checked_rows.nd rfl rfl (sw_true rfl rfl rfl (by decide +kernel)) (pi_list (pv 2)) (blkOk_by (own := [("counts", 4)]) (N := ["columns", "kind", "states", "rows", "counts"]) (sc := defScope s_checked_rows) (by decide +kernel)) (fun _ _ _ _ _ => pg_name (i := 4) sc_checked_rows.nd rfl (by first | exact Or.inl rfl | exact Or.inr rfl)) (fun _ _ _ _ _ => pts_nil) (fun _ _ _ _ _ => (pe_fn G_numbers_of (hr.mono (by decide)) (by rfl) (pa_cons (pv 0) (pa_cons (pv 4) pa_nil))))) (pss_cons (ps_if (pt_cmpR (op_neD hr.units) (pe_ix ix_list (pv 3) pe_int (fun _ _ => rfl)) (pe_op op_rep (pe_lst (pa_cons pe_int pa_nil)) (pe_callB call_len_seq (by rfl) T.z_len (by decide +kernel) (pa_cons (pv 0) pa_nil))) (nomark _)) (pss_one ps_never) pss_nil) (pss_one (ps_ret (pv 3)))))), ?_⟩
    obtain ⟨a, xs, ea, hxs, hra⟩ := R_list.mp hst
    cases ea
    have hxl : xs.length = sums.length := by rw [RA.len hra, List.length_map]
    have xne : xs.isEmpty = false := by
      cases xs with
      | nil => simp at hxl; omega
      | cons x r => rfl
    refine ⟨_, rfl, _, .inl ⟨xs, SqL.of hxs, rfl⟩, ?_⟩
    rw [xne]
    refine ⟨_, rfl, st, rfl, ⟨_, SqL.of hxs⟩, fun D hD => ?_⟩
    refine lc_data (K := K) (a := st) (xs := xs) (F0 := F) ((sums.map fun tb => cols.map (look tb)).map dInts) (by simp [hxl]) (by omega) (SqL.of hxs) hD sF (fun i x d F' H' Q' hx hd s2 gr nD fD k => ?_) (fun F' H' ys s2 gr fD ra hD' => ?_)
    · have hi : i < sums.length := by rw [← hxl]; exact (List.getElem?_eq_some_iff.mp hx).1
      have hsi : sums[i]? = some sums[i] := List.getElem?_eq_getElem hi
      rw [List.map_map, List.getElem?_map, hsi] at hd
      cases hd
      obtain ⟨x', hx', hR⟩ := RA.at hra (show (sums.map dSum)[i]? = some (dSum sums[i]) by rw [List.getElem?_map, hsi]; rfl)
      rw [hx] at hx'
      cases hx'
      obtain ⟨t, rfl, ht⟩ := R_dSum.mp hR
      refine ⟨rfl, _, rfl, _, rfl, c, t, cols, sums[i], rfl, s2 _ _ hc, s2 _ _ ht, hlen, hg _ (List.getElem_mem hi), fun p H4 hp s4 h4 => ?_⟩
      exact k _ _ _ s4 (Gr.one (gr.sub.trans s4) hp h4) (R_dInts.mpr ⟨p, rfl, upd_same⟩)
    · have raH := RA.mono gr.sub _ _ ra
      obtain ⟨tb0, e0⟩ : ∃ tb, sums[0]? = some tb := ⟨sums[0], List.getElem?_eq_getElem hne⟩
      obtain ⟨y0, ey0, hy0⟩ := RA.at raH (show ((sums.map fun tb => cols.map (look tb)).map dInts)[0]? = some (dInts (cols.map (look tb0))) by rw [List.map_map, List.getElem?_map, e0]; rfl)
      rw [hz tb0 e0] at hy0
      have len0 : (0 : Int) < (ys.length : Int) := by have := RA.len ra; simp only [List.length_map] at this; omega
      refine ⟨_, rfl, D, ys, 0, y0, rfl, rfl, SqL.of hD', atI_nat (j := 0) ey0, (show 1 ≤ sizeLine by decide), fun p2 hp2 => ?_⟩
      have s3 : Same H' (upd H' p2 (.lst [V.int 0])) := same_upd hp2
      refine ⟨_, rfl, c, _, rfl, .inl (SqL.of (s3 _ _ (s2 _ _ hc))), p2, _, [V.int 0], rfl, rfl, upd_same, by rw [List.length_map]; omega, by rw [List.length_map]; omega, ?_, fun p3 hp3 => ?_⟩
      · rw [List.length_map]
        show 1 * ((cols.length : Int).toNat) ≤ sizeLine
        exact Nat.le_trans (show 1 * ((cols.length : Int).toNat) ≤ 20 by omega) (by decide)
      have ez : (List.replicate ((cols.map V.str).length : Int).toNat [V.int 0]).flatten = (zeros cols).map V.int := by
        rw [List.length_map]
        show (List.replicate cols.length [V.int 0]).flatten = _
        unfold zeros
        rw [List.map_replicate]
        generalize cols.length = n
        induction n with
        | zero => rfl
        | succ n ih => rw [List.replicate_succ, List.flatten_cons, ih, List.replicate_succ]; rfl
      have s4 : Same (upd H' p2 (.lst [V.int 0])) (upd (upd H' p2 (.lst [V.int 0])) p3 (.lst (List.replicate ((cols.map V.str).length : Int).toNat [V.int 0]).flatten)) := same_upd hp3
      refine ⟨dInts (zeros cols), dInts (zeros cols), R.dpp hy0 (s3.trans s4) (plain_dInts _), R.dpp (R_dInts.mpr ⟨p3, rfl, by rw [upd_same, ez]⟩) (Same.refl _) (plain_dInts _), shaped_of (plain_dInts _) (Nat.le_trans (depth_dInts _) (by decide)), shaped_of (plain_dInts _) (Nat.le_trans (depth_dInts _) (by decide)), _, rfl, ?_⟩
      rw [eqv_eq (plain_dInts _) (plain_dInts _) rfl]
      refine ⟨_, rfl, ?_⟩
      have gz := (gr.snoc hD hD').step (s3.trans s4)
      exact q D _ _ hD (s2.trans (s3.trans s4)) gz (R_list.mpr ⟨D, ys, rfl, upd_same, RA.mono (fun b o e => by
        rw [upd_ne (fun z => by rw [z, fD] at e; cases e)]; exact e) _ _ ra⟩)
end
end Pz
namespace Pz
open PySem L2
open PyProof.Rows (envOfC)
theorem iteD {p A B : Prop} [Decidable p] (h : p) (a : A) : if decide p = true then A else B := by
  rw [decide_eq_true h]; exact iteT a
theorem plain_dNSs {l : List (Str × Int)} (h : ∀ s ∈ l, PyData.strOk s.1 = true) : plain (.list (l.map dNS)) = true := by
  simp only [plain]
  exact plainAll_of fun x hx => by obtain ⟨s, hs, rfl⟩ := List.mem_map.mp hx; exact plain_dNS (h s hs)
theorem depth_dNSs (l : List (Str × Int)) : PyData.depth (.list (l.map dNS)) ≤ 64 := by
  have := depthAll_le (n := 1) (xs := l.map dNS) fun x hx => by
    obtain ⟨s, _, rfl⟩ := List.mem_map.mp hx
    simp [dNS, PyData.depth, PyData.depthAll]
  simp only [PyData.depth]
  omega
theorem dNS_inj {a b : Str × Int} (h : dNS a = dNS b) : a = b := by
  obtain ⟨a1, a2⟩ := a
  obtain ⟨b1, b2⟩ := b
  simp only [dNS, PyData.tuple.injEq, List.cons.injEq, PyData.str.injEq, PyData.int.injEq, and_true] at h
  rw [h.1, h.2]
theorem not_mem_take {α : Type} {l : List α} (h : l.Nodup) {i : Nat} {x : α} (e : l[i]? = some x) : x ∉ l.take i := by
  intro hm
  obtain ⟨j, hj, ej⟩ := List.mem_take_iff_getElem.mp hm
  have hj1 : j < l.length := by omega
  have := nodup_ix2 h (show l[j]? = some x by rw [List.getElem?_eq_getElem hj1, ej]) e
  omega
/-- a dict whose keys are the names and starts of steps -/
def kNS (s : Str × Int) : List Key := [Sum.inr s.1, Sum.inl s.2]
theorem kNS_inj {a b : Str × Int} (h : kNS a = kNS b) : a = b := by
  obtain ⟨a1, a2⟩ := a
  obtain ⟨b1, b2⟩ := b
  unfold kNS at h
  injection h with h1 h2
  injection h2 with h2 _
  injection h1 with h1
  injection h2 with h2
  dsimp only at h1 h2
  rw [h1, h2]
def eSteps (l : List (Str × Int)) : List (List Key × V) := l.map fun s => (kNS s, V.bl true)
theorem valV_eSteps (z : Str × Int) : ∀ xs : List (Str × Int), (valV (eSteps xs) (kNS z)).isSome = decide (z ∈ xs)
  | [] => by simp [eSteps, valV]
  | x :: xs => by
    have ih := valV_eSteps z xs
    by_cases h : x = z
    · have e : valV (eSteps (x :: xs)) (kNS z) = some (V.bl true) := valV_pos (p := (kNS x, V.bl true)) (by rw [h])
      rw [e, h]; simp
    · have e : valV (eSteps (x :: xs)) (kNS z) = valV (eSteps xs) (kNS z) := valV_neg (p := (kNS x, V.bl true)) (fun q => h (kNS_inj q))
      rw [e, ih]
      by_cases h2 : z ∈ xs
      · simp [h2]
      · simp [h2, Ne.symm h]
theorem putK_eSteps {xs : List (Str × Int)} {z : Str × Int} (h : z ∉ xs) : putK (eSteps xs) (kNS z) (V.bl true) = eSteps (xs ++ [z]) := by
  rw [putK_new, eSteps, eSteps, List.map_append]
  · rfl
  · have := valV_eSteps z xs
    rw [decide_eq_false h] at this
    cases q : valV (eSteps xs) (kNS z) with
    | none => rfl
    | some u => rw [q] at this; cases this
theorem len_eSteps (xs : List (Str × Int)) : (eSteps xs).length = xs.length := by simp [eSteps]
section
variable {P : Program} {w : World} {K : PySem.W.Frag} {mg : Str → Option Value} {base : Heap}
def spSteps : Sp := fun vs H Q _ => ∃ (n : Int) (st : Addr) (steps : List (Str × Int × Int)) (F : Hp) (xs : List V), vs = [.int n, .ref st] ∧ H st = some (.lst xs) ∧ RA F (steps.map dStep) xs ∧ Same F H ∧ steps.length ≤ 40 ∧
  (∀ s ∈ steps, isNm s.1 = true ∧ 0 ≤ s.2.1 ∧ s.2.1 < n ∧ 0 ≤ s.2.2 ∧ s.2.2 < n) ∧ (steps.map fun s => (s.1, s.2.1)).Nodup ∧
  ∀ (p : Addr) (H' F' : Hp), H p = none → Same H H' → Gr F H F' H' → R F' (.list (steps.map dStep)) (.ref p) → Q (.ref p) H'
theorem ok_checked_steps (T : Txt K mg) : Fn P w K mg base 3 "checked_steps" ["size", "steps"] spSteps := by
  have G_require_name := ok_require_name (P := P) (w := w) (base := base) T
  refine T.d_checked_steps.fn sc_checked_steps (fun vs H Q E h => ?_) (fun cdv A outer f s H vs Q E hr h => ?_)
  · obtain ⟨_, _, _, _, _, rfl, _⟩ := h; rfl
  · obtain ⟨n, st, steps, F, xs, rfl, hst, hra, sF, hlen, hstp, hnd, q⟩ := h
    have hxl : xs.length = steps.length := by rw [RA.len hra, List.length_map]
    refine ⟨_, (pss_cons (ps_set (i := 2) sc_checked_steps.nd rfl (Or.inl rfl) pe_dnewT) (pss_cons (ps_for PassesOwn.never rfl (pi_list (pv 1)) (pg_name (i := 3) sc_checked_steps.nd rfl (Or.inl rfl)) (pss_cons (ps_asg (pv 3) (pg_tup (by rfl) (pgs_cons (pg_name (i := 4) sc_checked_steps.nd rfl (Or.inl rfl)) (pgs_cons (pg_name (i := 5) sc_checked_steps.nd rfl (Or.inl rfl)) (pgs_cons (pg_name (i := 6) sc_checked_steps.nd rfl (Or.inl rfl)) pgs_nil))))) (pss_cons (ps_expr (pe_fn G_require_name (hr.mono (by decide)) (by rfl) (pa_cons (pv 4) pa_nil))) (pss_cons (ps_if (pt_not (PW.pt (pw_and (pt_chain op_le op_lt pe_int (pv 5) (pv 0)) (pw_and1 (pt_chain op_le op_lt pe_int (pv 6) (pv 0)))))) (pss_one ps_never) pss_nil) (pss_cons (ps_if (pt_cmp (pc_din (hu_of hr) (pe_tup (pa_cons (pv 4) (pa_cons (pv 5) pa_nil))) (pv 2))) (pss_one ps_never) pss_nil) (pss_one (ps_dput (hu_of hr) (pv 2) (pe_tup (pa_cons (pv 4) (pa_cons (pv 5) pa_nil))) pe_bl rfl))))))) (pss_one (ps_ret (pe_callTy call_list_of (by rfl) T.z_list (by decide +kernel) (pa_cons (pv 1) pa_nil)))))), ?_⟩
    intro D hD
    have sD : Same H (upd H D (.dT [])) := same_upd hD
    refine ⟨_, rfl, st, rfl, ⟨_, SqL.of (sD _ _ hst)⟩, for_list (K := K) (a := st) (xs := xs)
      (fun i σ H' => ∃ v3 v4 v5 v6, σ = [some (.int n), some (.ref st), some (.ref D), v3, v4, v5, v6] ∧ Same H H' ∧ H' D = some (.dT (eSteps ((steps.take i).map fun (s : Str × Int × Int) => (s.1, s.2.1)))))
      ⟨_, _, _, _, rfl, sD, upd_same⟩ (fun i σ H' _ h => ?_) ?_ ?_⟩
    · obtain ⟨_, _, _, _, _, s1, _⟩ := h
      exact SqL.of (s1 _ _ hst)
    · rintro i x σ H' hx ⟨v3, v4, v5, v6, rfl, s1, hD1⟩
      have hi : i < steps.length := by rw [← hxl]; exact (List.getElem?_eq_some_iff.mp hx).1
      have hsi : steps[i]? = some steps[i] := List.getElem?_eq_getElem hi
      obtain ⟨x', hx', hR⟩ := RA.at hra (show (steps.map dStep)[i]? = some (dStep steps[i]) by rw [List.getElem?_map, hsi]; rfl)
      rw [hx] at hx'
      cases hx'
      obtain ⟨a, rfl, ha⟩ := R_dStep.mp hR
      obtain ⟨hn1, hn2, hn3, hn4, hn5⟩ := hstp _ (List.getElem_mem hi)
      refine ⟨_, rfl, a, _, rfl, SqT.of (s1 _ _ (sF _ _ ha)), rfl, _, _, rfl, _, _, rfl, _, _, rfl, rfl, ?_⟩
      refine ⟨_, rfl, _, rfl, hn1, fun H2 s2 => ?_⟩
      refine ⟨_, rfl, _, _, rfl, rfl, _, rfl, iteD hn2 ⟨_, rfl, _, _, rfl, rfl, _, rfl, iteD hn3 ⟨_, rfl, _, _, rfl, rfl, _, rfl, iteD hn4 ⟨_, rfl, _, _, rfl, rfl, _, rfl, iteNS hn5 ?_⟩⟩⟩⟩
      refine ⟨_, rfl, _, rfl, (show 2 ≤ sizeLine by decide), fun p hp => ?_⟩
      have sH2 : Same H' (upd H2 p (.tup [V.str steps[i].1, V.int steps[i].2.1])) := s2.trans (same_upd hp)
      have nin : (steps[i].1, steps[i].2.1) ∉ (steps.take i).map fun s => (s.1, s.2.1) := by
        rw [List.map_take]
        exact not_mem_take hnd (by rw [List.getElem?_map, hsi]; rfl)
      refine ⟨_, rfl, D, _, rfl, DGet.t (k := kNS (steps[i].1, steps[i].2.1)) (sH2 _ _ hD1) upd_same, _, rfl, ?_⟩
      rw [valV_eSteps, decide_eq_false nin]
      refine ⟨_, rfl, _, rfl, _, rfl, (show 2 ≤ sizeLine by decide), fun p2 hp2 => ?_⟩
      have s3 := sH2.trans (same_upd (o := .tup [V.str steps[i].1, V.int steps[i].2.1]) hp2)
      refine ⟨D, _, rfl, DPut.t (k := kNS (steps[i].1, steps[i].2.1)) (s3 _ _ hD1) upd_same ?_, ?_⟩
      · rw [len_eSteps, List.length_map, List.length_take]; exact small1000 (by omega)
      refine ⟨_, _, _, _, rfl, ?_, ?_⟩
      · exact fun b o e => by
          rw [upd_ne (fun z => by rw [z, hD] at e; cases e)]
          exact s3 _ _ (s1 _ _ e)
      · rw [upd_same, putK_eSteps nin, List.take_add_one, hsi, List.map_append]; rfl
    · rintro σ H' ⟨v3, v4, v5, v6, rfl, s1, hD1⟩
      refine ⟨_, rfl, st, _, rfl, .inl (SqL.of (s1 _ _ hst)), fun p hp => ?_⟩
      have hp' : H p = none := same_none s1 hp
      have g : Gr F H (upd F p (.lst xs)) (upd H' p (.lst xs)) := Gr.one (sF.trans (s1.trans (same_upd hp))) hp' upd_same
      exact q p _ _ hp' (s1.trans (same_upd hp)) g (R_list.mpr ⟨p, xs, rfl, upd_same, RA.mono g.le _ _ hra⟩)
end
end Pz
namespace Pz
open PySem L2
open PyProof.Rows (envOfC)
theorem some_ne {α : Type} {o : Option α} {x : α} (h : o = some x) : o ≠ none := by rw [h]; exact fun q => nomatch q
theorem R_dKind {F : Hp} {k : KD} {v : V} : R F (dKind k) v ↔ ∃ t x y, v = .ref t ∧ F t = some (.tup [.str k.name, x, y]) ∧ R F (dRows k.rows) x ∧ R F (.list (k.steps.map dStep)) y := by
  have e : R F (dKind k) v ↔ ∃ a xs, v = .ref a ∧ F a = some (.tup xs) ∧ RA F [.str k.name, dRows k.rows, .list (k.steps.map dStep)] xs := by
    unfold dKind
    constructor
    · intro h; simpa only [R] using h
    · intro h; simpa only [R] using h
  rw [e]
  constructor
  · rintro ⟨a, xs, rfl, h, hr⟩
    simp only [RA] at hr
    obtain ⟨x1, r1, rfl, h1, x2, r2, rfl, h2, x3, r3, rfl, h3, rfl⟩ := hr
    have h1' : x1 = .str k.name := by simpa only [R] using h1
    subst h1'
    exact ⟨a, x2, x3, rfl, h, h2, h3⟩
  · rintro ⟨a, x, y, rfl, h, h2, h3⟩
    refine ⟨a, _, rfl, h, ?_⟩
    simp only [RA]
    exact ⟨_, _, rfl, by simp only [R], _, _, rfl, h2, _, _, rfl, h3, rfl⟩
section
variable {P : Program} {w : World} {K : PySem.W.Frag} {mg : Str → Option Value} {base : Heap}
def spKinds : Sp := fun vs H Q _ => ∃ (c ks : Addr) (cols : List Str) (kds : List KD) (F : Hp) (xs : List V), vs = [.ref c, .ref ks] ∧ H c = some (.lst (cols.map V.str)) ∧ H ks = some (.lst xs) ∧ HKs F H kds xs ∧ Same F H ∧ cols.length ≤ 20 ∧
  (∀ k ∈ kds, GoodK cols k) ∧ (kds.map (·.name)).Nodup ∧ kds.length ≤ 20 ∧
  ∀ (p : Addr) (H' F' : Hp), H p = none → Same H H' → Gr F H F' H' → R F' (.list (kds.map dKind)) (.ref p) → Q (.ref p) H'
theorem ok_checked_kinds (T : Txt K mg) : Fn P w K mg base 4 "checked_kinds" ["columns", "kinds"] spKinds := by
  have G_require_new_name := ok_require_new_name (P := P) (w := w) (base := base) T
  have G_checked_rows := ok_checked_rows (P := P) (w := w) (base := base) T
  have G_checked_steps := ok_checked_steps (P := P) (w := w) (base := base) T
  refine T.d_checked_kinds.fn sc_checked_kinds (fun vs H Q E h => ?_) (fun cdv A outer f s H vs Q E hr h => ?_)
  · obtain ⟨_, _, _, _, _, _, rfl, _⟩ := h; rfl
  · obtain ⟨c, ks, cols, kds, F, xs, rfl, hc, hks, hk, sF, hcl, hgood, hnd, hlen, q⟩ := h
    refine ⟨_, (pss_cons (ps_set (i := 2) sc_checked_kinds.nd rfl (Or.inl rfl) pe_dnewK) (pss_cons (ps_set (i := 3) sc_checked_kinds.nd rfl (Or.inl rfl) (pe_lst pa_nil)) (pss_cons (ps_for PassesOwn.never rfl (pi_list (pv 1)) (pg_tup (by rfl) (pgs_cons (pg_name (i := 4) sc_checked_kinds.nd rfl (Or.inl rfl)) (pgs_cons (pg_name (i := 5) sc_checked_kinds.nd rfl (Or.inl rfl)) (pgs_cons (pg_name (i := 6) sc_checked_kinds.nd rfl (Or.inl rfl)) pgs_nil)))) (pss_cons (ps_expr (pe_fn G_require_new_name (hr.mono (by decide)) (by rfl) (pa_cons (pv 4) (pa_cons (pv 2) pa_nil)))) (pss_cons (ps_dput (hu_of hr) (pv 2) (pv 4) pe_bl rfl) (pss_cons (ps_set (i := 7) sc_checked_kinds.nd rfl (Or.inl rfl) (pe_fn G_checked_rows (hr.mono (by decide)) (by rfl) (pa_cons (pv 0) (pa_cons (pv 4) (pa_cons (pv 5) pa_nil))))) (pss_one (ps_expr (pe_bm PySem.F.plainAttrs_list PySem.F.slot_list_append PySem.F.type_list_append mt_append (pv 3) (pa_cons (pe_tup (pa_cons (pv 4) (pa_cons (pv 7) (pa_cons (pe_fn G_checked_steps (hr.mono (by decide)) (by rfl) (pa_cons (pe_callB call_len_seq (by rfl) T.z_len (by decide +kernel) (pa_cons (pv 7) pa_nil)) (pa_cons (pv 6) pa_nil))) pa_nil)))) pa_nil)))))))) (pss_one (ps_ret (pv 3)))))), ?_⟩
    intro D1 hD1
    refine ⟨Nat.zero_le _, fun D2 hD2 => ?_⟩
    have s1 : Same H (upd H D1 (.dK [])) := same_upd hD1
    have s2 : Same H (upd (upd H D1 (.dK [])) D2 (.lst [])) := s1.trans (same_upd hD2)
    have n12 : D1 ≠ D2 := fun z => by rw [← z, upd_same] at hD2; cases hD2
    have hD2' : H D2 = none := same_none s1 hD2
    have f1 : F D1 = none := same_none sF hD1
    have f2 : F D2 = none := same_none sF hD2'
    refine ⟨_, rfl, ks, rfl, ⟨_, SqL.of (s2 _ _ hks)⟩, for_list (K := K) (a := ks) (xs := xs)
      (fun i σ H' => ∃ v4 v5 v6 v7 ys F', σ = [some (.ref c), some (.ref ks), some (.ref D1), some (.ref D2), v4, v5, v6, v7] ∧ Same H H' ∧ H' D1 = some (.dK (eNames ((kds.take i).map (·.name)))) ∧ H' D2 = some (.lst ys) ∧
        Gr F H F' H' ∧ F' D1 = none ∧ F' D2 = none ∧ RA F' ((kds.take i).map dKind) ys)
      ⟨_, _, _, _, [], F, rfl, s2, (by rw [upd_ne n12]; exact upd_same), upd_same, ((Gr.refl sF).put f1).put f2, f1, f2, by simp [RA]⟩ (fun i σ H' _ h => ?_) ?_ ?_⟩
    · obtain ⟨_, _, _, _, _, _, _, s', _⟩ := h
      exact SqL.of (s' _ _ hks)
    · rintro i x σ H' hx ⟨v4, v5, v6, v7, ys, F', rfl, s', d1, d2, gr, e1, e2, ra⟩
      have hi : i < kds.length := by rw [← hk.1]; exact (List.getElem?_eq_some_iff.mp hx).1
      have hki : kds[i]? = some kds[i] := List.getElem?_eq_getElem hi
      obtain ⟨t, st, sp, zs, rfl, ht, hst, hsp, hzs⟩ := hk.2 i _ _ hki hx
      have gk := hgood _ (List.getElem_mem hi)
      generalize hkd : kds[i] = k at *
      refine ⟨t, _, rfl, SqT.of (s' _ _ ht), rfl, _, _, rfl, _, _, rfl, _, _, rfl, rfl, ?_⟩
      have nin : k.name ∉ (kds.take i).map (·.name) := by
        rw [List.map_take]
        exact not_mem_take hnd (by rw [List.getElem?_map, hki]; rfl)
      refine ⟨_, rfl, _, rfl, k.name, D1, _, rfl, gk.nm, d1, nin, fun H2 s2' => ?_⟩
      refine ⟨_, rfl, _, rfl, D1, _, rfl, DPut.k (k := Sum.inr k.name) (s2' _ _ d1) ?_, ?_⟩
      · rw [len_eNames, List.length_map, List.length_take]; exact small1000 (by omega)
      rw [putK_eNames nin]
      have sH3 : Same H (upd H2 D1 (.dK (eNames ((kds.take i).map (·.name) ++ [k.name])))) := fun b o e => by
        rw [upd_ne (fun z => by rw [z, hD1] at e; cases e)]
        exact s2' _ _ (s' _ _ e)
      have d2' : (upd H2 D1 (.dK (eNames ((kds.take i).map (·.name) ++ [k.name])))) D2 = some (.lst ys) := by
        rw [upd_ne (Ne.symm n12)]; exact s2' _ _ d2
      have gr3 := (gr.step s2').put (o := .dK (eNames ((kds.take i).map (·.name) ++ [k.name]))) e1
      have d1' : (upd H2 D1 (.dK (eNames ((kds.take i).map (·.name) ++ [k.name])))) D1 = some (.dK (eNames ((kds.take i).map (·.name) ++ [k.name]))) := upd_same
      generalize hH3 : upd H2 D1 (.dK (eNames ((kds.take i).map (·.name) ++ [k.name]))) = H3 at *
      refine ⟨_, rfl, _, rfl, _, rfl, c, st, cols, k.name, k.sums, F', rfl, sH3 _ _ hc, R.mono sH3 _ _ hst, hcl, gk.ne, gk.len, gk.sums, fun tb htb => ?_, gr3.sub, fun p H4 F4 hp s4 g4 hR4 => ?_⟩
      · have := gk.zero
        rw [gk.rows, List.getElem?_map, htb] at this
        exact Option.some.inj this
      have e41 := g4.out e1 (some_ne d1')
      have e42 := g4.out e2 (some_ne d2')
      obtain ⟨_, rs, ep, hrs, hra⟩ := R_list.mp hR4
      cases ep
      have rl : rs.length = k.sums.length := by have := RA.len hra; simp only [List.length_map] at this; exact this
      have sH4 := sH3.trans s4
      refine ⟨_, rfl, .inl ⟨rfl, _, SqL.of (s4 _ _ d2')⟩, _, rfl, _, rfl, _, rfl, p, rs, rfl, .inl (SqL.of (g4.sub _ _ hrs)), _, rfl, _, sp, k.steps, F4, zs, rfl, sH4 _ _ hsp, RA.mono (gr3.le.trans g4.le) _ _ hzs, g4.sub, gk.slen, ?_, gk.snd, fun p5 H5 F5 hp5 s5 g5 hR5 => ?_⟩
      · rw [rl]; exact gk.stp
      refine ⟨(show 3 ≤ sizeLine by decide), fun p6 hp6 => ?_⟩
      have s6 := same_upd (o := .tup [V.str k.name, .ref p, .ref p5]) hp6
      have e51 := g5.out e41 (some_ne (s4 _ _ d1'))
      have e52 := g5.out e42 (some_ne (s4 _ _ d2'))
      have g45 : Gr F H F5 H5 := (gr3.trans g4 (fun z hz => same_none sH3 hz)).trans g5 (fun z hz => same_none sH4 hz)
      have sH5 := sH4.trans s5
      have g6 := (g45.step s6).snoc (same_none sH5 hp6) upd_same
      have n61 : p6 ≠ D1 := fun z => by have := s5 _ _ (s4 _ _ d1'); rw [← z, hp6] at this; cases this
      have n62 : p6 ≠ D2 := fun z => by have := s5 _ _ (s4 _ _ d2'); rw [← z, hp6] at this; cases this
      have yl : ys.length = i := by have := RA.len ra; simp only [List.length_map, List.length_take] at this; omega
      have le6 : Same F5 (upd F5 p6 (.tup [V.str k.name, .ref p, .ref p5])) := fun b o e => by
        rw [upd_ne (fun z => by have := g5.sub _ _ e; rw [z, hp6] at this; cases this)]; exact e
      refine ⟨_, _, _, rfl, rfl, s6 _ _ (s5 _ _ (s4 _ _ d2')), small1000 (by omega), ?_⟩
      refine ⟨_, _, _, _, ys ++ [.ref p6], _, rfl, ?_, ?_, upd_same, g6.put (by rw [upd_ne (Ne.symm n62)]; exact e52), (by rw [upd_ne (Ne.symm n61)]; exact e51), (by rw [upd_ne (Ne.symm n62)]; exact e52), ?_⟩
      · exact fun b o e => by
          rw [upd_ne (fun z => by rw [z, hD2'] at e; cases e)]
          exact s6 _ _ (sH5 _ _ e)
      · rw [upd_ne n12, List.take_add_one, hki, List.map_append]
        exact s6 _ _ (s5 _ _ (s4 _ _ d1'))
      · rw [List.take_add_one, hki, List.map_append]
        refine RA.append (RA.mono ((g4.le.trans g5.le).trans le6) _ _ ra) ?_
        show RA _ [dKind k] _
        simp only [RA]
        refine ⟨_, [], rfl, R_dKind.mpr ⟨p6, .ref p, .ref p5, rfl, upd_same, ?_, R.mono le6 _ _ hR5⟩, rfl⟩
        rw [gk.rows]
        exact R.mono (g5.le.trans le6) _ _ hR4
    · rintro σ H' ⟨v4, v5, v6, v7, ys, F', rfl, s', d1, d2, gr, e1, e2, ra⟩
      rw [hk.1, List.take_of_length_le (Nat.le_refl _)] at ra
      refine ⟨_, rfl, q D2 H' _ hD2' s' (gr.snoc hD2' d2) (R_list.mpr ⟨D2, ys, rfl, upd_same, RA.mono (fun b o e => ?_) _ _ ra⟩)⟩
      rw [upd_ne (fun z => by rw [z, e2] at e; cases e)]
      exact e
end
end Pz
namespace Pz
open PySem L2
open PyProof.Rows (envOfC)
/-! ### the class Plan -/
theorem f_ck : ¬ (("_columns" : Str) = "_kinds") := by decide +kernel
theorem f_ch : ¬ (("_columns" : Str) = "_checks") := by decide +kernel
theorem f_kh : ¬ (("_kinds" : Str) = "_checks") := by decide +kernel
theorem f_kc : ¬ (("_kinds" : Str) = "_columns") := by decide +kernel
/-- its attributes, one after the other -/
def pf1 (c : Addr) : List (Str × V) := putF "_columns" (.ref c) []
def pf2 (c k : Addr) : List (Str × V) := putF "_kinds" (.ref k) (pf1 c)
def pf3 (c k h : Addr) : List (Str × V) := putF "_checks" (.ref h) (pf2 c k)
theorem pf1_c (c : Addr) : (pf1 c).lookup ("_columns" : Str) = some (.ref c) := by unfold pf1; rw [lookup_putF, if_pos rfl]
theorem pf2_c (c k : Addr) : (pf2 c k).lookup ("_columns" : Str) = some (.ref c) := by unfold pf2; rw [lookup_putF, if_neg f_ck]; exact pf1_c c
theorem pf3_c (c k h : Addr) : (pf3 c k h).lookup ("_columns" : Str) = some (.ref c) := by unfold pf3; rw [lookup_putF, if_neg f_ch]; exact pf2_c c k
theorem pf3_k (c k h : Addr) : (pf3 c k h).lookup ("_kinds" : Str) = some (.ref k) := by
  unfold pf3; rw [lookup_putF, if_neg f_kh]; unfold pf2; rw [lookup_putF, if_pos rfl]
theorem pf3_h (c k h : Addr) : (pf3 c k h).lookup ("_checks" : Str) = some (.ref h) := by unfold pf3; rw [lookup_putF, if_pos rfl]
theorem pf1_len (c : Addr) : (pf1 c).length < 1000 := by
  show 1 < 1000
  decide
theorem pf2_len (c k : Addr) : (pf2 c k).length < 1000 := by
  show (if ("_columns" : Str) = "_kinds" then [(("_columns" : Str), V.ref k)] else (("_columns" : Str), V.ref c) :: putF "_kinds" (V.ref k) []).length < 1000
  rw [if_neg f_ck]
  show 2 < 1000
  decide
structure PlanT (K : PySem.W.Frag) (mg : Str → Option Value) (C : Addr) : Prop where
  cl : Cls K C
  nC : NoAttr K C "_columns"
  nK : NoAttr K C "_kinds"
  nH : NoAttr K C "_checks"
  mgP : mg "Plan" = some (.ref C)
  init : ∃ f fd, Mk K C f ∧ Fun K "__init__" "Plan.__init__" s_Planinit f fd ∧ Binds K fd ["self", "columns", "kinds", "checks"] []
  pcol : ∃ p g fd, PropOf K C "columns" p g ∧ Fun K "columns" "Plan.columns" s_Plan_columns g fd ∧ Binds K fd ["self"] []
  pkin : ∃ p g fd, PropOf K C "kinds" p g ∧ Fun K "kinds" "Plan.kinds" s_Plan_kinds g fd ∧ Binds K fd ["self"] []
  pchk : ∃ p g fd, PropOf K C "checks" p g ∧ Fun K "checks" "Plan.checks" s_Plan_checks g fd ∧ Binds K fd ["self"] []
theorem pf3_none {c k h : Addr} {m : Str} (h1 : m ≠ "_columns") (h2 : m ≠ "_kinds") (h3 : m ≠ "_checks") : (pf3 c k h).lookup m = none := by
  unfold pf3; rw [lookup_putF, if_neg h3]; unfold pf2; rw [lookup_putF, if_neg h2]; unfold pf1; rw [lookup_putF, if_neg h1]; rfl
/-- a plan in the frozen part -/
def PlanAt (C : Addr) (F : Hp) (p : Addr) (cols : List Str) (kds : List KD) (chk : List (List Int)) : Prop :=
  ∃ dx c k h, F p = some (.ins C dx (pf3 c k h)) ∧ F c = some (.lst (cols.map V.str)) ∧ R F (.list (kds.map dKind)) (.ref k) ∧ R F (dRows chk) (.ref h)
theorem PlanAt.mono {C : Addr} {F F' : Hp} {p : Addr} {cols : List Str} {kds : List KD} {chk : List (List Int)} (h : PlanAt C F p cols kds chk) (s : Same F F') : PlanAt C F' p cols kds chk := by
  obtain ⟨dx, c, k, hh, h1, h2, h3, h4⟩ := h
  exact ⟨dx, c, k, hh, s _ _ h1, s _ _ h2, R.mono s _ _ h3, R.mono s _ _ h4⟩
structure GoodP (cols : List Str) (kds : List KD) (sums : List (List (Str × Int))) : Prop where
  c : GoodC cols
  k : ∀ k ∈ kds, GoodK cols k
  nd : (kds.map (·.name)).Nodup
  len : kds.length ≤ 20
  s : ∀ tb ∈ sums, GoodS cols tb
  slen : sums.length ≤ 40
/-- a class called, its __init__ known by a promise -/
structure Make (P : Program) (w : World) (K : PySem.W.Frag) (mg : Str → Option Value) (base : Heap) (k : Nat) (C : Addr) (x : Str) (ps : List Str) (sp : Sp) : Prop where
  ex : ∃ f fd, Mk K C f ∧ mg x = some (.ref C) ∧ Binds K fd ps [] ∧ FnOk P w K mg base CX0 k f fd ps sp
theorem pe_mk {X : Cx} {k : Nat} {C : Addr} {x : Str} {ps : List Str} {sp : Sp} {p pos : Pos} {e : Expr} {es : List Expr} {t : TA} (F : Make X.prog X.w X.K X.mg X.base k C x ps sp) (hr : Room (k + 1) X.A) (hg : Gl X x)
    (ha : PA X (e :: es) t) (hdb : (x == ("__debug__" : Str)) = false := by decide) (he : starEach (e :: es) X.env = (false, eval e X.env) :: starEach es X.env := by rfl)
    (hpl : (backTo pos (starEach es X.env)).any (·.1) = false := by rfl) : PE X (.Call (.Name x p) (e :: es) [] pos) (tMake C sp [] E0 t) := by
  obtain ⟨f, fd, a, b, c, d⟩ := F.ex
  exact pe_make a d hr hg b c .nil pass0 ha hdb he hpl
/-- a property, its getter known by a promise -/
structure Prp (P : Program) (w : World) (K : PySem.W.Frag) (mg : Str → Option Value) (base : Heap) (k : Nat) (C : Addr) (x : Str) (sp : Sp) : Prop where
  ex : ∃ p g fd, Cls K C ∧ PropOf K C x p g ∧ Binds K fd ["self"] [] ∧ FnOk P w K mg base CX0 k g fd ["self"] sp
theorem pe_prp {X : Cx} {k : Nat} {C : Addr} {x : Str} {sp : Sp} {pos : Pos} {e : Expr} {ta : TE} (F : Prp X.prog X.w X.K X.mg X.base k C x sp) (hr : Room (k + 1) X.A) (he : PE X e ta)
    (hab : attributeBase e x X.env (eval e X.env) = eval e X.env := by rfl) : PE X (.Attribute e x pos) (tProp C sp [] E0 ta) := by
  obtain ⟨p, g, fd, a, b, c, d⟩ := F.ex
  exact pe_prop he a b d hr c .nil (fun _ _ _ _ _ _ _ z => z.elim) hab
section
variable {P : Program} {w : World} {K : PySem.W.Frag} {mg : Str → Option Value} {base : Heap} {C : Addr}
def spPlanInit (C : Addr) : Sp := fun vs H Q _ => ∃ (H0 : Hp) (p dx c ks hs : Addr) (cols : List Str) (kds : List KD) (sums : List (List (Str × Int))) (F : Hp) (xs : List V),
  vs = [.ref p, .ref c, .ref ks, .ref hs] ∧ H = upd (upd H0 dx (.own p)) p (.ins C dx []) ∧ H0 p = none ∧ H0 dx = none ∧ dx ≠ p ∧ H0 c = some (.lst (cols.map V.str)) ∧ H0 ks = some (.lst xs) ∧ HKs F H0 kds xs ∧
  R H0 (.list (sums.map dSum)) (.ref hs) ∧ Same F H0 ∧ GoodP cols kds sums ∧
  ∀ (H' F' : Hp), Same H0 H' → Gr F H0 F' H' → PlanAt C F' p cols kds (sums.map fun tb => cols.map (look tb)) → Q .non H'
theorem ok_Plan_init (T : Txt K mg) (L : PlanT K mg C) : Make P w K mg base 5 C "Plan" ["self", "columns", "kinds", "checks"] (spPlanInit C) := by
  have G_checked_columns := ok_checked_columns (P := P) (w := w) (base := base) T
  have G_checked_kinds := ok_checked_kinds (P := P) (w := w) (base := base) T
  have G_numbers_of := ok_numbers_of (P := P) (w := w) (base := base) T
  obtain ⟨fa, fd, hM, Fi, hb⟩ := L.init
  refine ⟨fa, fd, hM, L.mgP, hb, Fi.ok sc_Planinit (fun vs H Q E h => ?_) (fun cdv A outer s H vs Q E hr h => ?_)⟩
  · obtain ⟨_, _, _, _, _, _, _, _, _, _, _, rfl, _⟩ := h; rfl
  · obtain ⟨H0, p, dx, c, ks, hs, cols, kds, sums, F, xs, rfl, rfl, hp0, hd0, ndp, hc, hks, hk, hh, sF, good, q⟩ := h
    refine ⟨_, (pss_cons (ps_fld (pv 0) (pe_fn G_checked_columns (hr.mono (by decide)) (by rfl) (pa_cons (pv 1) pa_nil)) (by rfl)) (pss_cons (ps_fld (pv 0) (pe_fn G_checked_kinds (hr.mono (by decide)) (by rfl) (pa_cons (pe_fld (pv 0) (by rfl)) (pa_cons (pv 2) pa_nil))) (by rfl)) (pss_one (ps_fld (pv 0) (pe_lc (own := [("check", 4)]) (g := gName 4) (by rfl) sc_Planinit.nd (pi_list (pv 3)) (blkOk_by (own := [("check", 4)]) (N := ["self", "columns", "kinds", "checks", "check"]) (sc := defScope s_Planinit) (by decide +kernel)) (fun _ _ _ _ _ => pg_name (i := 4) sc_Planinit.nd rfl (by first | exact Or.inl rfl | exact Or.inr rfl)) (fun _ _ _ _ _ => pts_nil) (fun _ _ _ _ _ => (pe_fn G_numbers_of (hr.mono (by decide)) (by rfl) (pa_cons (pe_fldK (K := K) (pv 0) (by rfl)) (pa_cons (pv 4) pa_nil))))) (by rfl))))), ?_⟩
    have s0 : Same H0 (upd (upd H0 dx (.own p)) p (.ins C dx [])) := fun b o e => by
      rw [upd_ne (ne_of_none e hp0), upd_ne (ne_of_none e hd0)]; exact e
    have hp : (upd (upd H0 dx (.own p)) p (.ins C dx [])) p = some (.ins C dx []) := upd_same
    generalize hH : upd (upd H0 dx (.own p)) p (.ins C dx []) = H at *
    have fp : F p = none := same_none sF hp0
    refine ⟨_, rfl, c, cols, rfl, s0 _ _ hc, good.c.nd, Nat.le_trans good.c.len (by decide), good.c.nm, fun q1 H1 hq1 s1 hc1 => ?_⟩
    have hp1 := s1 _ _ hp
    refine ⟨_, rfl, p, C, dx, [], rfl, hp1, L.cl, L.nC, (by show 0 < 1000; decide), ?_⟩
    have np1 : q1 ≠ p := fun z => by rw [z, hp] at hq1; cases hq1
    have sB1 : Same H0 (upd H1 p (.ins C dx (pf1 q1))) := fun b o e => by
      rw [upd_ne (ne_of_none e hp0)]; exact s1 _ _ (s0 _ _ e)
    have c1 : (upd H1 p (.ins C dx (pf1 q1))) q1 = some (.lst (cols.map V.str)) := by rw [upd_ne np1]; exact hc1
    have p1 : (upd H1 p (.ins C dx (pf1 q1))) p = some (.ins C dx (pf1 q1)) := upd_same
    show (tSeq _ _) _ _ (upd H1 p (.ins C dx (pf1 q1)))
    generalize hB1 : upd H1 p (.ins C dx (pf1 q1)) = B1 at *
    have q1n : H0 q1 = none := same_none s0 hq1
    refine ⟨_, rfl, p, C, dx, _, _, rfl, p1, L.cl, L.nC, pf1_c q1, _, rfl, q1, ks, cols, kds, F, xs, rfl, c1, sB1 _ _ hks, hk.mono (Same.refl F) sB1, sF.trans sB1, good.c.len, good.k, good.nd, good.len, fun q2 H2 F2 hq2 s2 g2 hR2 => ?_⟩
    have hp2 := s2 _ _ p1
    refine ⟨_, rfl, p, C, dx, pf1 q1, rfl, hp2, L.cl, L.nK, pf1_len q1, ?_⟩
    have fp2 : F2 p = none := g2.out fp (some_ne p1)
    have sB2 : Same H0 (upd H2 p (.ins C dx (pf2 q1 q2))) := fun b o e => by
      rw [upd_ne (ne_of_none e hp0)]; exact s2 _ _ (sB1 _ _ e)
    have c2 : (upd H2 p (.ins C dx (pf2 q1 q2))) q1 = some (.lst (cols.map V.str)) := by rw [upd_ne np1]; exact s2 _ _ c1
    have p2 : (upd H2 p (.ins C dx (pf2 q1 q2))) p = some (.ins C dx (pf2 q1 q2)) := upd_same
    have gB2 : Gr F H0 F2 (upd H2 p (.ins C dx (pf2 q1 q2))) := ((Gr.base sF sB1).trans g2 (fun z hz => same_none sB1 hz)).put fp2
    show Ends.nx _ _ (upd H2 p (.ins C dx (pf2 q1 q2)))
    generalize hB2 : upd H2 p (.ins C dx (pf2 q1 q2)) = B2 at *
    have q2n : H0 q2 = none := same_none sB1 hq2
    obtain ⟨_, zs, eh, hzs, hzr⟩ := R_list.mp hh
    cases eh
    have hzl : zs.length = sums.length := by rw [RA.len hzr, List.length_map]
    refine ⟨_, rfl, hs, rfl, ⟨_, SqL.of (sB2 _ _ hzs)⟩, fun D hD => ?_⟩
    have hD0 : H0 D = none := same_none sB2 hD
    refine lc_data (K := K) (a := hs) (xs := zs) (F0 := F2) ((sums.map fun tb => cols.map (look tb)).map dInts) (by simp [hzl]) (by have := good.slen; omega) (SqL.of (sB2 _ _ hzs)) hD gB2.sub (fun i x d F' H' Q' hx hd s3 g3 nD fD k => ?_) (fun F' H' ys s3 g3 fD ra hD' => ?_)
    · have hi : i < sums.length := by rw [← hzl]; exact (List.getElem?_eq_some_iff.mp hx).1
      have hsi : sums[i]? = some sums[i] := List.getElem?_eq_getElem hi
      rw [List.map_map, List.getElem?_map, hsi] at hd
      cases hd
      obtain ⟨x', hx', hR⟩ := RA.at hzr (show (sums.map dSum)[i]? = some (dSum sums[i]) by rw [List.getElem?_map, hsi]; rfl)
      rw [hx] at hx'
      cases hx'
      obtain ⟨t, rfl, ht⟩ := R_dSum.mp hR
      refine ⟨rfl, _, rfl, p, C, dx, _, _, rfl, s3 _ _ p2, L.cl, L.nC, pf2_c q1 q2, _, rfl, q1, t, cols, sums[i], rfl, s3 _ _ c2, s3 _ _ (sB2 _ _ ht), good.c.len, good.s _ (List.getElem_mem hi), fun r H4 hr4 s4 h4 => ?_⟩
      exact k _ _ _ s4 (Gr.one (g3.sub.trans s4) hr4 h4) (R_dInts.mpr ⟨r, rfl, upd_same⟩)
    · refine ⟨_, rfl, p, C, dx, pf2 q1 q2, rfl, s3 _ _ p2, L.cl, L.nH, pf2_len q1 q2, ?_⟩
      have fp3 : F' p = none := g3.out fp2 (some_ne p2)
      have npD : p ≠ D := fun z => by rw [z, hD] at p2; cases p2
      have ga := (gB2.trans g3 (fun z hz => same_none sB2 hz)).snoc hD0 hD'
      have gb := ga.put (D := p) (o := .ins C dx (pf3 q1 q2 D)) (by rw [upd_ne npD]; exact fp3)
      have gc := gb.snoc (D := q1) (o := .lst (cols.map V.str)) q1n (by rw [upd_ne np1]; exact s3 _ _ c2)
      have gd := gc.snoc (D := p) (o := .ins C dx (pf3 q1 q2 D)) hp0 upd_same
      refine q _ _ (fun b o e => ?_) gd ⟨dx, q1, q2, D, upd_same, ?_, ?_, ?_⟩
      · rw [upd_ne (ne_of_none e hp0)]; exact s3 _ _ (sB2 _ _ e)
      · rw [upd_ne np1]; exact upd_same
      · refine R.mono (fun b o e => ?_) _ _ hR2
        have e2 := g3.le _ _ e
        have nb1 : b ≠ p := fun z => by rw [z, fp2] at e; cases e
        have nbD : b ≠ D := fun z => by have := gB2.sub _ _ e; rw [z, hD] at this; cases this
        rw [upd_ne nb1]
        by_cases z : b = q1
        · subst z
          rw [upd_same]
          have := gB2.sub _ _ e
          rw [c2] at this
          exact this
        · rw [upd_ne z, upd_ne nbD]; exact e2
      · refine R_list.mpr ⟨D, ys, rfl, ?_, RA.mono (fun b o e => ?_) _ _ ra⟩
        · rw [upd_ne (Ne.symm npD)]
          have n1D : D ≠ q1 := fun z => by rw [← z, hD] at c2; cases c2
          rw [upd_ne n1D]; exact upd_same
        · have nb1 : b ≠ p := fun z => by rw [z, fp3] at e; cases e
          have nbD : b ≠ D := fun z => by rw [z, fD] at e; cases e
          rw [upd_ne nb1]
          by_cases z : b = q1
          · subst z
            rw [upd_same]
            have := g3.sub _ _ e
            rw [s3 _ _ c2] at this
            exact this
          · rw [upd_ne z, upd_ne nbD]; exact e
end
end Pz
namespace Pz
open PySem L2
open PyProof.Rows (envOfC)
section
variable {P : Program} {w : World} {K : PySem.W.Frag} {mg : Str → Option Value} {base : Heap} {C : Addr}
def spPCols (C : Addr) : Sp := fun vs H Q _ => ∃ (F : Hp) (p : Addr) (cols : List Str) (kds : List KD) (chk : List (List Int)), vs = [.ref p] ∧ Same F H ∧ PlanAt C F p cols kds chk ∧
  ∀ (q : Addr) (H' : Hp), H q = none → Same H H' → H' q = some (.lst (cols.map V.str)) → Q (.ref q) H'
theorem ok_Plan_columns (T : Txt K mg) (L : PlanT K mg C) : Prp P w K mg base 1 C "columns" (spPCols C) := by
  obtain ⟨pp, g, fd, hp, F, hb⟩ := L.pcol
  refine ⟨pp, g, fd, L.cl, hp, hb, F.ok sc_Plan_columns (fun vs H Q E h => ?_) (fun cdv A outer s H vs Q E hr h => ?_)⟩
  · obtain ⟨_, _, _, _, _, rfl, _⟩ := h; rfl
  · obtain ⟨F, p, cols, kds, chk, rfl, sF, ⟨dx, c, k, hh, h1, h2, h3, h4⟩, q⟩ := h
    refine ⟨_, (pss_one (ps_ret (pe_callTy call_list_of (by rfl) T.z_list (by decide +kernel) (pa_cons (pe_fld (pv 0) (by rfl)) pa_nil)))), ?_⟩
    refine ⟨_, rfl, p, C, dx, _, _, rfl, sF _ _ h1, L.cl, L.nC, pf3_c _ _ _, c, _, rfl, .inl (SqL.of (sF _ _ h2)), fun r hr' => ?_⟩
    exact q r _ hr' (same_upd hr') upd_same
/-- lists of whole numbers, each a new one -/
structure NewRows (H H' : Hp) (q : Addr) (rows : List (List Int)) (rs : List Addr) : Prop where
  len : rs.length = rows.length
  at_ : H' q = some (.lst (rs.map V.ref))
  nd : (q :: rs).Nodup
  fr : ∀ r ∈ rs, H r = none
  ct : ∀ (i : Nat) r ns, rs[i]? = some r → rows[i]? = some ns → H' r = some (.lst (ns.map V.int))
theorem NewRows.R {F H H' : Hp} {q : Addr} {rows : List (List Int)} {rs : List Addr} (h : NewRows H H' q rows rs) (hq : H q = none) : R (grow F H H') (dRows rows) (.ref q) := by
  refine R_list.mpr ⟨q, _, rfl, grow_new hq h.at_, RA_of (by rw [List.length_map, List.length_map]; exact h.len) ?_⟩
  intro i d x e1 e2
  rw [List.getElem?_map] at e1 e2
  obtain ⟨ns, e3, rfl⟩ := Option.map_eq_some_iff.mp e1
  obtain ⟨r, e4, rfl⟩ := Option.map_eq_some_iff.mp e2
  exact R_dInts.mpr ⟨r, rfl, grow_new (h.fr r (List.mem_of_getElem? e4)) (h.ct i r ns e4 e3)⟩
def spPChk (C : Addr) : Sp := fun vs H Q _ => ∃ (F : Hp) (p : Addr) (cols : List Str) (kds : List KD) (chk : List (List Int)), vs = [.ref p] ∧ Same F H ∧ PlanAt C F p cols kds chk ∧ chk.length ≤ 40 ∧
  ∀ (q : Addr) (H' : Hp) (rs : List Addr), H q = none → Same H H' → NewRows H H' q chk rs → Q (.ref q) H'
theorem rows_src {F H : Hp} {rows : List (List Int)} {a : Addr} (h : Pz.R F (dRows rows) (.ref a)) (s : Same F H) : ∃ xs, H a = some (.lst xs) ∧ xs.length = rows.length ∧ ∀ (i : Nat) x ns, xs[i]? = some x → rows[i]? = some ns → ∃ b, x = .ref b ∧ H b = some (.lst (ns.map V.int)) := by
  obtain ⟨_, xs, e, h1, h2⟩ := R_list.mp h
  cases e
  refine ⟨xs, s _ _ h1, by rw [RA.len h2, List.length_map], fun i x ns e1 e2 => ?_⟩
  obtain ⟨y, ey, hy⟩ := RA.at h2 (show (rows.map dInts)[i]? = some (dInts ns) by rw [List.getElem?_map, e2]; rfl)
  rw [e1] at ey
  cases ey
  obtain ⟨b, rfl, hb⟩ := R_dInts.mp hy
  exact ⟨b, rfl, s _ _ hb⟩
theorem ok_Plan_checks (T : Txt K mg) (L : PlanT K mg C) : Prp P w K mg base 1 C "checks" (spPChk C) := by
  obtain ⟨pp, g, fd, hp, F, hb⟩ := L.pchk
  refine ⟨pp, g, fd, L.cl, hp, hb, F.ok sc_Plan_checks (fun vs H Q E h => ?_) (fun cdv A outer s H vs Q E hr h => ?_)⟩
  · obtain ⟨_, _, _, _, _, rfl, _⟩ := h; rfl
  · obtain ⟨F, p, cols, kds, chk, rfl, sF, ⟨dx, c, k, hh, h1, h2, h3, h4⟩, hlen, q⟩ := h
    refine ⟨_, (pss_one (ps_ret (pe_lc (own := [("factors", 1)]) (g := gName 1) (by rfl) sc_Plan_checks.nd (pi_list (pe_fld (pv 0) (by rfl))) (blkOk_by (own := [("factors", 1)]) (N := ["self", "factors"]) (sc := defScope s_Plan_checks) (by decide +kernel)) (fun _ _ _ _ _ => pg_name (i := 1) sc_Plan_checks.nd rfl (by first | exact Or.inl rfl | exact Or.inr rfl)) (fun _ _ _ _ _ => pts_nil) (fun _ _ _ _ _ => (pe_callTy (list_ofK (K := K)) (by rfl) T.z_list (by decide +kernel) (pa_cons (pv 1) pa_nil)))))), ?_⟩
    obtain ⟨xs, hxs, hxl, hsrc⟩ := rows_src h4 sF
    refine ⟨_, rfl, p, C, dx, _, _, rfl, sF _ _ h1, L.cl, L.nH, pf3_h _ _ _, hh, rfl, ⟨_, SqL.of hxs⟩, fun D hD => ?_⟩
    refine lc_copy (K := K) (a := hh) (xs := xs) (chk.map fun ns => ns.map V.int) (by rw [List.length_map, hxl]) (by omega) (SqL.of hxs) hD (fun i x c' H' Q' hx hc s1 k => ?_) (fun H' rs s1 el hq nd fr ct => ?_)
    · rw [List.getElem?_map] at hc
      obtain ⟨ns, e3, rfl⟩ := Option.map_eq_some_iff.mp hc
      obtain ⟨b, rfl, hb⟩ := hsrc i x ns hx e3
      exact ⟨rfl, _, rfl, b, _, rfl, .inl (SqL.of (s1 _ _ hb)), k⟩
    · refine q D H' rs hD s1 ⟨by rw [el, List.length_map], hq, nd, fr, fun i r ns e1 e2 => ct i r _ e1 (by rw [List.getElem?_map, e2]; rfl)⟩
/-- a kind as the property hands it out: the tuple, the lists of states and steps, the states -/
structure NewKind (F H H' : Hp) (k : KD) (t st sp : Addr) (rs : List Addr) : Prop where
  tup : H' t = some (.tup [.str k.name, .ref st, .ref sp])
  rows : NewRows H H' st k.rows rs
  steps : ∃ zs, H' sp = some (.lst zs) ∧ RA F (k.steps.map dStep) zs
end
end Pz
namespace Pz
open PySem L2
open PyProof.Rows (envOfC)
abbrev KA := Addr × Addr × Addr × List Addr
def flatK (kas : List KA) : List Addr := kas.flatMap fun a => a.2.1 :: a.2.2.1 :: a.2.2.2
theorem NewRows.mono {H H' H2 : Hp} {q : Addr} {rows : List (List Int)} {rs : List Addr} (h : NewRows H H' q rows rs) (s : Same H' H2) : NewRows H H2 q rows rs :=
  ⟨h.len, s _ _ h.at_, h.nd, h.fr, fun i r ns a b => s _ _ (h.ct i r ns a b)⟩
theorem NewKind.mono {F H H' H2 : Hp} {k : KD} {t st sp : Addr} {rs : List Addr} (h : NewKind F H H' k t st sp rs) (s : Same H' H2) : NewKind F H H2 k t st sp rs := by
  obtain ⟨zs, h1, h2⟩ := h.steps
  exact ⟨s _ _ h.tup, h.rows.mono s, zs, s _ _ h1, h2⟩
structure NewKinds (F H H' : Hp) (q : Addr) (kds : List KD) (kas : List KA) : Prop where
  len : kas.length = kds.length
  at_ : H' q = some (.lst (kas.map fun a => V.ref a.1))
  fr : ∀ a ∈ kas, H a.1 = none ∧ H a.2.1 = none ∧ H a.2.2.1 = none
  ct : ∀ (i : Nat) a k, kas[i]? = some a → kds[i]? = some k → NewKind F H H' k a.1 a.2.1 a.2.2.1 a.2.2.2
  nd : (q :: flatK kas).Nodup
theorem NewKinds.R {F H H' : Hp} {q : Addr} {kds : List KD} {kas : List KA} (h : NewKinds F H H' q kds kas) (hq : H q = none) (s : Same F H) (e : Same H H') : R (grow F H H') (.list (kds.map dKind)) (.ref q) := by
  refine R_list.mpr ⟨q, _, rfl, grow_new hq h.at_, RA_of (by rw [List.length_map, List.length_map]; exact h.len) ?_⟩
  intro i d x e1 e2
  rw [List.getElem?_map] at e1 e2
  obtain ⟨k, e3, rfl⟩ := Option.map_eq_some_iff.mp e1
  obtain ⟨a, e4, rfl⟩ := Option.map_eq_some_iff.mp e2
  have c := h.ct i a k e4 e3
  obtain ⟨f1, f2, f3⟩ := h.fr a (List.mem_of_getElem? e4)
  obtain ⟨zs, h1, h2⟩ := c.steps
  exact R_dKind.mpr ⟨a.1, _, _, rfl, grow_new f1 c.tup, c.rows.R f2, R_list.mpr ⟨_, zs, rfl, grow_new f3 h1, RA.mono (gr_grow s e).le _ _ h2⟩⟩
section
variable {P : Program} {w : World} {K : PySem.W.Frag} {mg : Str → Option Value} {base : Heap} {C : Addr}
def spPKin (C : Addr) : Sp := fun vs H Q _ => ∃ (F : Hp) (p : Addr) (cols : List Str) (kds : List KD) (chk : List (List Int)), vs = [.ref p] ∧ Same F H ∧ PlanAt C F p cols kds chk ∧ kds.length ≤ 40 ∧ (∀ k ∈ kds, k.rows.length ≤ 40) ∧
  ∀ (q : Addr) (H' : Hp) (kas : List KA), H q = none → Same H H' → NewKinds F H H' q kds kas → Q (.ref q) H'
theorem ok_Plan_kinds (T : Txt K mg) (L : PlanT K mg C) : Prp P w K mg base 1 C "kinds" (spPKin C) := by
  obtain ⟨pp, g, fd, hp, F, hb⟩ := L.pkin
  refine ⟨pp, g, fd, L.cl, hp, hb, F.ok sc_Plan_kinds (fun vs H Q E h => ?_) (fun cdv A outer s H vs Q E hr h => ?_)⟩
  · obtain ⟨_, _, _, _, _, rfl, _⟩ := h; rfl
  · obtain ⟨F, p, cols, kds, chk, rfl, sF, ⟨dx, c, k, hh, h1, h2, h3, h4⟩, hlen, hrl, q⟩ := h
    refine ⟨_, (pss_one (ps_ret (pe_lc (own := [("name", 1), ("rows", 2), ("steps", 3)]) (by rfl) sc_Plan_kinds.nd (pi_list (pe_fld (pv 0) (by rfl))) (blkOk_by (own := [("name", 1), ("rows", 2), ("steps", 3)]) (N := ["self", "name", "rows", "steps", "row"]) (sc := defScope s_Plan_kinds) (by decide +kernel)) (fun _ _ _ _ _ => (pg_tupK (K := K) (n := 3) rfl (pgs_cons (pg_name (i := 1) sc_Plan_kinds.nd rfl (by first | exact Or.inl rfl | exact Or.inr rfl)) (pgs_cons (pg_name (i := 2) sc_Plan_kinds.nd rfl (by first | exact Or.inl rfl | exact Or.inr rfl)) (pgs_cons (pg_name (i := 3) sc_Plan_kinds.nd rfl (by first | exact Or.inl rfl | exact Or.inr rfl)) pgs_nil))))) (fun _ _ _ _ _ => pts_nil) (fun _ _ _ _ _ => (pe_tup (pa_cons (pv 1) (pa_cons (pe_lc (own := [("row", 4)]) (g := gName 4) (by rfl) sc_Plan_kinds.nd (pi_listK (K := K) (pv 2)) (blk_closed (blkOk_by (own := [("row", 4)]) (N := ["self", "name", "rows", "steps", "row"]) (sc := defScope s_Plan_kinds) (by decide +kernel)) (by decide +kernel)) (fun _ _ _ _ _ => pg_name (i := 4) sc_Plan_kinds.nd rfl (by first | exact Or.inl rfl | exact Or.inr rfl)) (fun _ _ _ _ _ => pts_nil) (fun _ _ _ _ _ => (pe_callTy (list_ofK (K := K)) (by rfl) T.z_list (by decide +kernel) (pa_cons (pv 4) pa_nil)))) (pa_cons (pe_callTy (list_ofK (K := K)) (by rfl) T.z_list (by decide +kernel) (pa_cons (pv 3) pa_nil)) pa_nil)))))))), ?_⟩
    obtain ⟨_, xs, ek, hxs, hra⟩ := R_list.mp h3
    cases ek
    have hxl : xs.length = kds.length := by rw [RA.len hra, List.length_map]
    refine ⟨_, rfl, p, C, dx, _, _, rfl, sF _ _ h1, L.cl, L.nK, pf3_k _ _ _, k, rfl, ⟨_, SqL.of (sF _ _ hxs)⟩, fun D hD => ?_⟩
    refine lc_list (K := K) (a := k) (xs := xs) (fun i H' => ∃ kas : List KA, kas.length = i ∧ Same H H' ∧ H' D = some (.lst (kas.map fun a => V.ref a.1)) ∧ (∀ a ∈ kas, H a.1 = none ∧ H a.2.1 = none ∧ H a.2.2.1 = none) ∧
        (∀ (j : Nat) a k, kas[j]? = some a → kds[j]? = some k → NewKind F H (hid D H') k a.1 a.2.1 a.2.2.1 a.2.2.2) ∧ (D :: flatK kas).Nodup ∧ ∀ b ∈ flatK kas, H' b ≠ none)
      ⟨[], rfl, same_upd hD, upd_same, (fun a h => nomatch h), (fun j a k h => by simp at h), by simp [flatK], (fun b h => by simp [flatK] at h)⟩ (fun i H' _ ⟨_, _, s1, _⟩ => SqL.of (s1 _ _ (sF _ _ hxs))) ?_ ?_
    · rintro i x H' hx ⟨kas, el, s1, hD1, fr, ct, nd, ex⟩
      have hi : i < kds.length := by rw [← hxl]; exact (List.getElem?_eq_some_iff.mp hx).1
      have hki : kds[i]? = some kds[i] := List.getElem?_eq_getElem hi
      obtain ⟨x', hx', hR⟩ := RA.at hra (show (kds.map dKind)[i]? = some (dKind kds[i]) by rw [List.getElem?_map, hki]; rfl)
      rw [hx] at hx'
      cases hx'
      have hrl' := hrl _ (List.getElem_mem hi)
      generalize kds[i] = kd at *
      obtain ⟨t0, x0, y0, rfl, ht0, hx0, hy0⟩ := R_dKind.mp hR
      obtain ⟨rw0, _, er, _, _⟩ := R_list.mp hx0
      cases er
      obtain ⟨sp0, zs, es, hzs, hza⟩ := R_list.mp hy0
      cases es
      obtain ⟨rxs, hrxs, hrxl, hsrc⟩ := rows_src hx0 (sF.trans s1)
      refine ⟨t0, _, rfl, SqT.of (s1 _ _ (sF _ _ ht0)), rfl, _, _, rfl, _, _, rfl, _, _, rfl, rfl, rfl, ?_⟩
      refine ⟨_, rfl, _, rfl, rw0, rfl, ⟨_, SqL.of hrxs⟩, fun D2 hD2 => ?_⟩
      refine lc_copy (K := K) (a := rw0) (xs := rxs) (kd.rows.map fun ns => ns.map V.int) (by rw [List.length_map, hrxl]) (by omega) (SqL.of hrxs) hD2 (fun j x c' H2 Q' hx2 hc s2 kk => ?_) (fun H2 rs s2 el2 hq2 nd2 fr2 ct2 => ?_)
      · rw [List.getElem?_map] at hc
        obtain ⟨ns, e3, rfl⟩ := Option.map_eq_some_iff.mp hc
        obtain ⟨b, rfl, hb⟩ := hsrc j x ns hx2 e3
        exact ⟨rfl, _, rfl, b, _, rfl, .inl (SqL.of (s2 _ _ hb)), kk⟩
      refine ⟨_, rfl, sp0, _, rfl, .inl (SqL.of (s2 _ _ (s1 _ _ (sF _ _ hzs)))), fun sp hsp => ?_⟩
      have s3 := same_upd (o := .lst zs) hsp
      refine ⟨(show 3 ≤ sizeLine by decide), fun t ht => ?_⟩
      have s4 := same_upd (o := .tup [V.str kd.name, .ref D2, .ref sp]) ht
      have s14 : Same H' (upd (upd H2 sp (.lst zs)) t (.tup [V.str kd.name, .ref D2, .ref sp])) := s2.trans (s3.trans s4)
      have hDt := s14 _ _ hD1
      have hsp' : H' sp = none := same_none s2 hsp
      have ht' : H' t = none := same_none (s2.trans s3) ht
      have ndD2 : D ≠ D2 := fun z => by rw [← z, hD1] at hD2; cases hD2
      have ndsp : D ≠ sp := fun z => by rw [← z, hD1] at hsp'; cases hsp'
      have ndt : D ≠ t := fun z => by rw [← z, hD1] at ht'; cases ht'
      have ndr : ∀ r ∈ rs, D ≠ r := fun r hr z => by have := fr2 r hr; rw [← z, hD1] at this; cases this
      have spD2 : sp ≠ D2 := fun z => by rw [z, hq2] at hsp; cases hsp
      have rsome : ∀ r ∈ rs, H2 r ≠ none := fun r hr => by
        obtain ⟨j, hj, ej⟩ := List.mem_iff_getElem.mp hr
        have hj2 : j < (kd.rows.map fun ns => ns.map V.int).length := by omega
        rw [ct2 j r _ (by rw [List.getElem?_eq_getElem hj, ej]) (List.getElem?_eq_getElem hj2)]
        exact fun z => nomatch z
      have sprs : sp ∉ rs := fun z => rsome sp z hsp
      rw [List.nodup_cons] at nd nd2
      refine ⟨_, hDt, by rw [List.length_map]; exact small1000 (by omega), kas ++ [(t, D2, sp, rs)], by simp [el], ?_, by rw [upd_same, List.map_append]; rfl, ?_, ?_, ?_, ?_⟩
      · exact fun b o e => by
          rw [upd_ne (fun z => by rw [z, hD] at e; cases e)]
          exact s14 _ _ (s1 _ _ e)
      · intro a ha
        rcases List.mem_append.mp ha with ha | ha
        · exact fr a ha
        · rw [List.mem_singleton.mp ha]
          exact ⟨same_none s1 ht', same_none s1 hD2, same_none s1 hsp'⟩
      · intro j a k' e1 e2
        rw [hid_upd]
        by_cases hj : j < kas.length
        · rw [List.getElem?_append_left hj] at e1
          exact (ct j a k' e1 e2).mono (hid_mono fun b o _ e => s14 b o e)
        · have ej : j = i := by
            have := (List.getElem?_eq_some_iff.mp e1).1
            simp at this
            omega
          subst ej
          rw [List.getElem?_append_right (by omega)] at e1
          have e0 : j - kas.length = 0 := by omega
          rw [e0] at e1
          have ea : (t, D2, sp, rs) = a := by simpa using e1
          subst ea
          rw [hki] at e2
          cases e2
          refine ⟨?_, ⟨by rw [el2, List.length_map], ?_, List.nodup_cons.mpr nd2, fun r hr => same_none s1 (fr2 r hr), fun j r ns e1 e2 => ?_⟩, zs, ?_, hza⟩
          · rw [hid_ne (Ne.symm ndt)]; exact upd_same
          · rw [hid_ne (Ne.symm ndD2)]; exact s4 _ _ (s3 _ _ hq2)
          · rw [hid_ne (Ne.symm (ndr r (List.mem_of_getElem? e1)))]
            exact s4 _ _ (s3 _ _ (ct2 j r _ e1 (by rw [List.getElem?_map, e2]; rfl)))
          · rw [hid_ne (Ne.symm ndsp)]; exact s4 _ _ upd_same
      · have ef : flatK (kas ++ [(t, D2, sp, rs)]) = flatK kas ++ (D2 :: sp :: rs) := by simp [flatK]
        rw [ef, List.nodup_cons, List.nodup_append]
        refine ⟨?_, nd.2, ?_, ?_⟩
        · intro z
          rcases List.mem_append.mp z with z | z
          · exact nd.1 z
          · rcases List.mem_cons.mp z with z | z
            · exact ndD2 z
            · rcases List.mem_cons.mp z with z | z
              · exact ndsp z
              · exact ndr D z rfl
        · rw [List.nodup_cons, List.nodup_cons]
          refine ⟨fun z => ?_, sprs, nd2.2⟩
          rcases List.mem_cons.mp z with z | z
          · exact spD2 z.symm
          · exact nd2.1 z
        · intro b hb c' hc e
          subst e
          have hbs := ex b hb
          rcases List.mem_cons.mp hc with z | z
          · exact hbs (z ▸ hD2)
          · rcases List.mem_cons.mp z with z | z
            · exact hbs (z ▸ hsp')
            · exact hbs (fr2 b z)
      · intro b hb
        have ef : flatK (kas ++ [(t, D2, sp, rs)]) = flatK kas ++ (D2 :: sp :: rs) := by simp [flatK]
        rw [ef] at hb
        by_cases z : b = D
        · subst z; rw [upd_same]; exact fun z => nomatch z
        rw [upd_ne z]
        rcases List.mem_append.mp hb with hb | hb
        · cases q : H' b with
          | none => exact absurd q (ex b hb)
          | some o => rw [s14 _ _ q]; exact fun z => nomatch z
        · rcases List.mem_cons.mp hb with hb | hb
          · rw [hb, s4 _ _ (s3 _ _ hq2)]; exact fun z => nomatch z
          · rcases List.mem_cons.mp hb with hb | hb
            · rw [hb, s4 _ _ upd_same]; exact fun z => nomatch z
            · cases q : H2 b with
              | none => exact absurd q (rsome b hb)
              | some o => rw [s4 _ _ (s3 _ _ q)]; exact fun z => nomatch z
    · rintro H' ⟨kas, el, s1, hD1, fr, ct, nd, ex⟩
      exact q D H' kas hD s1 ⟨by omega, hD1, fr, fun i a k' e1 e2 => (ct i a k' e1 e2).mono hid_sub, nd⟩
end
end Pz
namespace Pz
open PySem L2
open PyProof.Rows (envOfC)
/-! ### _law_shows -/
def NumOk (x : Int) : Prop := -(10 ^ 14) ≤ x ∧ x ≤ 10 ^ 14
def RowOk (row : List Int) : Prop := row.length ≤ 20 ∧ ∀ x ∈ row, NumOk x
theorem num_small {x : Int} (h : 0 ≤ x) (h' : x ≤ 1000) : NumOk x := by
  have e : (10 : Int) ^ 14 = 100000000000000 := by decide
  unfold NumOk
  omega
theorem shw_name {s : Str} (h : isNm s = true) : Shw 8 0 (.str s) := shw_str (nm_ok h) (isNm_len h).2
theorem shw_tup3 {a b c n : Nat} {x y z : PyData} (h1 : Shw a n x) (h2 : Shw b n y) (h3 : Shw c n z) : Shw (a + b + c + 3) (n + 1) (.tuple [x, y, z]) := by
  have e := shwAll (m := a + b + c) (n := n) (ds := [x, y, z]) fun d hd => by
    simp only [List.mem_cons, List.not_mem_nil, or_false] at hd
    rcases hd with rfl | rfl | rfl
    · exact h1.mono (by omega) (Nat.le_refl _)
    · exact h2.mono (by omega) (Nat.le_refl _)
    · exact h3.mono (by omega) (Nat.le_refl _)
  refine ⟨e.1, e.2.1, ?_, by simp only [PyData.depth]; have := e.2.2.2; omega⟩
  simp only [PyData.bulk, PyData.bulkAll]
  have := h1.bk
  have := h2.bk
  have := h3.bk
  omega
theorem shw_cols {cols : List Str} (h : ∀ c ∈ cols, isNm c = true) (l : cols.length ≤ 20) : Shw 180 1 (dStrs cols) :=
  shw_list (m := 8) (n := 0) (l := 20) (fun d hd => by obtain ⟨s, hs, rfl⟩ := List.mem_map.mp hd; exact shw_name (h s hs)) (by rw [List.length_map]; exact l)
theorem shw_steps {steps : List (Str × Int × Int)} (l : steps.length ≤ 40) (h : ∀ s ∈ steps, isNm s.1 = true ∧ NumOk s.2.1 ∧ NumOk s.2.2) : Shw 480 2 (.list (steps.map dStep)) :=
  (shw_list (m := 11) (n := 1) (l := 40) (fun d hd => by
    obtain ⟨s, hs, rfl⟩ := List.mem_map.mp hd
    obtain ⟨h1, h2, h3⟩ := h s hs
    exact shw_tup3 (shw_name h1) (shw_int h2) (shw_int h3)) (by rw [List.length_map]; exact l))
/-- a kind within the bounds -/
structure BK (k : KD) : Prop where
  nm : isNm k.name = true
  rl : k.rows.length ≤ 40
  rows : ∀ row ∈ k.rows, RowOk row
  sl : k.steps.length ≤ 40
  st : ∀ s ∈ k.steps, isNm s.1 = true ∧ NumOk s.2.1 ∧ NumOk s.2.2
structure BD (cols : List Str) (kds : List KD) (chk : List (List Int)) : Prop where
  nm : ∀ c ∈ cols, isNm c = true
  cl : cols.length ≤ 20
  k : ∀ k ∈ kds, BK k
  kl : kds.length ≤ 20
  h : ∀ row ∈ chk, RowOk row
  hl : chk.length ≤ 40
theorem shw_chk {rows : List (List Int)} (h : ∀ row ∈ rows, RowOk row) (l : rows.length ≤ 40) : Shw 840 2 (dRows rows) := shw_rows (l := 20) (r := 40) h l
theorem shw_kind {k : KD} (h : BK k) : Shw 1331 3 (dKind k) := shw_tup3 ((shw_name h.nm).mono (Nat.le_refl _) (by decide)) (shw_chk h.rows h.rl) (shw_steps h.sl h.st)
theorem shw_kinds {kds : List KD} (h : ∀ k ∈ kds, BK k) (l : kds.length ≤ 20) : Shw 26640 4 (.list (kds.map dKind)) :=
  shw_list (m := 1331) (n := 3) (l := 20) (fun d hd => by obtain ⟨k, hk, rfl⟩ := List.mem_map.mp hd; exact shw_kind (h k hk)) (by rw [List.length_map]; exact l)
/-- the data, frozen whole -/
def DatAt (F : Hp) (t0 : Addr) (cols : List Str) (kds : List KD) (chk : List (List Int)) : Prop :=
  ∃ c ks ch, F t0 = some (.tup [.ref c, .ref ks, .ref ch]) ∧ R F (dStrs cols) (.ref c) ∧ R F (.list (kds.map dKind)) (.ref ks) ∧ R F (dRows chk) (.ref ch)
theorem DatAt.mono {F F' : Hp} {t0 : Addr} {cols : List Str} {kds : List KD} {chk : List (List Int)} (h : DatAt F t0 cols kds chk) (s : Same F F') : DatAt F' t0 cols kds chk := by
  obtain ⟨c, ks, ch, h1, h2, h3, h4⟩ := h
  exact ⟨c, ks, ch, s _ _ h1, R.mono s _ _ h2, R.mono s _ _ h3, R.mono s _ _ h4⟩
end Pz
namespace Pz
open PySem L2
open PyProof.Rows (envOfC)
/-! ### the program's own errors -/
abbrev s_PartErrorinit : Stmt := inClass (topS 2) 0
theorem sc_PartErrorinit : FnScope ["self", "value"] ["self", "value"] (defScope s_PartErrorinit) := ⟨rfl, rfl, rfl, by decide +kernel, rfl, by decide +kernel, by decide +kernel⟩
/-- what the top has written of an error's class -/
structure ErrT (K : PySem.W.Frag) (mg : Str → Option Value) (x : Str) (C : Addr) : Prop where
  mgC : mg x = some (.ref C)
  oex : OexC K C
  xf : XfC K C
  noV : PySem.W.findIn K (.ref C) "value" = some none
  ini : ∃ f fd, PySem.W.findIn K (.ref C) "__init__" = some (some (.ref f)) ∧ PySem.W.typeIn K (.ref f) = some (.type "function") ∧ Fun K "__init__" "PartError.__init__" s_PartErrorinit f fd ∧ Binds K fd ["self", "value"] []
theorem exm_of {K : PySem.W.Frag} {a c : Addr} {b : Bool} (base : PySem.W.subIn K (.ref c) (.type "BaseException") = some true) (cls : PySem.W.isClsIn K c = true) (ty : PySem.W.typeIn K (.ref c) = some (.type "type")) (sub : PySem.W.subIn K (.ref a) (.ref c) = some b) : PySem.W.exmOne K (.ref a) (.ref c) = some b := by
  have cls' : (PySem.W.clsIn K c).isSome = true := cls
  unfold PySem.W.exmOne
  rw [base]
  simp [PySem.W.kitCls, cls', ty, sub]
def xdV (v : V) : HO := .xd [(("value" : Str), v)]
def spErr (C : Addr) : Sp := fun vs H Q _ => ∃ (a : Addr) (v : V), vs = [.ref a, v] ∧ H a = some (exo a C none) ∧ ∀ dx, H dx = none → dx ≠ a → Q .non (upd (upd H dx (exd dx [(("value" : Str), v)])) a (exo a C (some dx)))
section
variable {P : Program} {w : World} {K : PySem.W.Frag} {mg : Str → Option Value} {base : Heap} {C : Addr} {x : Str}
theorem ok_err (T : ErrT K mg x C) {f : Addr} {fd : FuncData} (F : Fun K "__init__" "PartError.__init__" s_PartErrorinit f fd) : FnOk P w K mg base CX0 1 f fd ["self", "value"] (spErr C) := by
  refine F.ok sc_PartErrorinit (fun vs H Q E h => ?_) (fun cdv A outer s H vs Q E hr h => ?_)
  · obtain ⟨_, _, rfl, _⟩ := h; rfl
  · obtain ⟨a, v, rfl, ha, q⟩ := h
    refine ⟨_, pss_one (ps_ost (pv 0) (pv 1)), ?_⟩
    exact ⟨_, rfl, _, rfl, a, C, rfl, T.oex, T.noV, .inl ⟨ha, fun dx h1 h2 => q dx h1 h2⟩⟩
/-- raise C(e) -/
def tErr (C : Addr) (W : WX) (te : TE) : TS := fun _ σ H => te σ H fun v H1 => ∀ d, H1 d = none → W (.ref C) (some d) σ (upd H1 d (xdV v))
theorem ps_err {X : Cx} {k : Nat} {x : Str} {C : Addr} {W : WX} {e : Expr} {te : TE} {p pos pos2 : Pos} (hc : X.calm = true) (tk : Takes X W) (T : ErrT X.K X.mg x C) (hr : Room (k + 2) X.A) (hg : Gl X x) (he : PE X e te)
    (hdb : (x == ("__debug__" : Str)) = false := by decide) (hs : starEach [e] X.env = (false, eval e X.env) :: starEach [] X.env := by rfl) (hpl : (backTo pos (starEach [] X.env)).any (·.1) = false := by rfl) :
    PS X (.Raise (some (.Call (.Name x p) [e] [] pos)) none pos2) (tErr C W te) := by
  obtain ⟨f, fd, iC, tI, F, hb⟩ := T.ini
  have R := ps_raise (pos := pos2) hc tk (pmk_oex (p := p) (pos := pos) T.oex iC tI (ok_err (P := X.prog) (w := X.w) (base := X.base) T F) (hr.mono (show 1 + 1 ≤ k + 2 by omega)) hb .nil pass0 hg T.mgC (pa_cons (hs := hs) (pe_cut he) pa_nil) hdb hs hpl)
  refine ⟨fun pins s σ H D I h => R.run pins s σ H D I ?_⟩
  have key : ∀ (v : V) (H1 : Hp), (∀ d, H1 d = none → W (.ref C) (some d) σ (upd H1 d (xdV v))) → [v].length ≤ 1000 ∧ ∀ a, H1 a = none → spErr C (.ref a :: ([v] ++ [])) (upd H1 a (exo a C none))
      (fun u H2 => u = .non ∧ ∃ (d : Addr) (fs : List (Str × V)), H2 a = some (exo a C (some d)) ∧ H2 d = some (exd d fs) ∧ H1 d = none ∧ W (.ref C) (some d) σ (upd (del H2 a) d (.xd fs))) (fun _ _ _ => False) := by
    intro v H1 hw
    refine ⟨by simp, fun a ha => ⟨a, v, rfl, upd_same, fun dx h1 h2 => ⟨rfl, dx, [("value", v)], upd_same, ?_, ?_, ?_⟩⟩⟩
    · rw [upd_ne h2]; exact upd_same
    · rw [upd_ne h2] at h1; exact h1
    · have e0 : upd (del (upd (upd (upd H1 a (exo a C none)) dx (exd dx [(("value" : Str), v)])) a (exo a C (some dx))) a) dx (.xd [(("value" : Str), v)]) = upd H1 dx (xdV v) := by
        funext b
        by_cases b1 : b = dx
        · rw [b1, upd_same, upd_same]; rfl
        · rw [upd_ne b1, upd_ne b1]
          by_cases b2 : b = a
          · rw [b2, del_same, ha]
          · rw [del_ne b2, upd_ne b2, upd_ne b1, upd_ne b2]
      rw [e0]
      rw [upd_ne h2] at h1
      exact hw dx h1
  exact ⟨_, h, fun v H1 hw => key v H1 hw⟩
end
end Pz
namespace Pz
open PySem L2
open PyProof.Rows (envOfC)
/-! ### a list of whatever == [] and != []; a test cut off from what comes behind it -/
section
variable {X : Cx}
theorem op_eqNil (hu : X.A.units + 1 < cLine) : OpR X (compareOp .Eq) (fun x y H Q => ∃ (a b : Addr) (xs : List V), x = .ref a ∧ y = .ref b ∧ H a = some (.lst xs) ∧ H b = some (.lst []) ∧ Q (.bl xs.isEmpty) H) := by
  intro pins s σ H x y v u Q I rx ry h
  obtain ⟨a, b, xs, rfl, rfl, ha, hb, q⟩ := h
  cases rx
  cases ry
  obtain ⟨us, r1, p1, _⟩ := I.list (SqL.of ha)
  obtain ⟨ws, r2, p2, _⟩ := I.list (SqL.of hb)
  cases r2
  cases r1 with
  | nil => exact SeqAt.RcAt.lists (e := fun _ => true) p1.isList p2.isList rfl (by omega) (fun j h1 _ => absurd h1 (by simp)) _ _ _ _ ⟨.bl true, H, I, rfl, q⟩
  | cons _ _ => exact SeqAt.RcAt.lists_lengths p1.isList p2.isList (by simp) (by omega) _ _ _ _ ⟨.bl false, H, I, rfl, q⟩
theorem op_neNil (hu : X.A.units + 1 < cLine) : OpR X (compareOp .NotEq) (fun x y H Q => ∃ (a b : Addr) (xs : List V), x = .ref a ∧ y = .ref b ∧ H a = some (.lst xs) ∧ H b = some (.lst []) ∧ Q (.bl (!xs.isEmpty)) H) := by
  intro pins s σ H x y v u Q I rx ry h
  obtain ⟨a, b, xs, rfl, rfl, ha, hb, q⟩ := h
  cases rx
  cases ry
  obtain ⟨us, r1, p1, _⟩ := I.list (SqL.of ha)
  obtain ⟨ws, r2, p2, _⟩ := I.list (SqL.of hb)
  cases r2
  cases r1 with
  | nil => exact SeqAt.RcNeAt.lists (e := fun _ => true) p1.isList p2.isList rfl (by omega) (fun j h1 _ => absurd h1 (by simp)) _ _ _ _ ⟨.bl false, H, I, rfl, q⟩
  | cons _ _ => exact SeqAt.RcNeAt.lists_lengths p1.isList p2.isList (by simp) (by omega) _ _ _ _ ⟨.bl true, H, I, rfl, q⟩
def tMidT (t : TT) : TT := fun σ H Q => ∃ Mid : Bool → Hp → Prop, t σ H Mid ∧ ∀ c H', Mid c H' → Q c H'
theorem pt_cut {e : Expr} {t : TT} (h : PT X e t) : PT X e (tMidT t) := by
  constructor
  intro pins s σ H Q I hq
  obtain ⟨Mid, h1, h2⟩ := hq
  exact thn (h.run pins s σ H Mid I h1) fun c s' ⟨H', I', q⟩ => ⟨H', I', h2 c H' q⟩
end
end Pz
namespace Pz
open PySem L2
open PyProof.Rows (envOfC)
/-! ### the law's own defs -/
abbrev s_law_told : Stmt := topS 29
theorem sc_law_told : FnScope ["label", "done", "known", "once", "states", "steps"] ["label", "done", "known", "once"] (defScope s_law_told) := ⟨rfl, rfl, rfl, by decide +kernel, rfl, by decide +kernel, by decide +kernel⟩
abbrev s_law_due : Stmt := topS 30
theorem sc_law_due : FnScope ["once", "guarded", "columns", "kinds", "checks"] ["once", "guarded"] (defScope s_law_due) := ⟨rfl, rfl, rfl, by decide +kernel, rfl, by decide +kernel, by decide +kernel⟩
abbrev s_law_rows : Stmt := topS 31
theorem sc_law_rows : FnScope ["due", "kinds", "label", "states", "steps", "check", "column", "state"] ["due"] (defScope s_law_rows) := ⟨rfl, rfl, rfl, by decide +kernel, rfl, by decide +kernel, by decide +kernel⟩
abbrev s_law_made : Stmt := topS 32
theorem sc_law_made : FnScope ["once", "guarded", "way"] ["once", "guarded", "way"] (defScope s_law_made) := ⟨rfl, rfl, rfl, by decide +kernel, rfl, by decide +kernel, by decide +kernel⟩
abbrev s_law_shown : Stmt := topS 33
theorem sc_law_shown : FnScope ["scheme", "way", "columns", "kinds", "checks"] ["scheme", "way"] (defScope s_law_shown) := ⟨rfl, rfl, rfl, by decide +kernel, rfl, by decide +kernel, by decide +kernel⟩
abbrev s_law_spoilt : Stmt := topS 34
theorem sc_law_spoilt : FnScope ["scheme", "well", "way", "columns", "kinds", "checks", "family", "row"] ["scheme", "well"] (defScope s_law_spoilt) := ⟨rfl, rfl, rfl, by decide +kernel, rfl, by decide +kernel, by decide +kernel⟩
abbrev s_law_right : Stmt := topS 35
theorem sc_law_right : FnScope ["well", "choice", "due", "rows", "scheme", "other", "second", "typed"] ["well"] (defScope s_law_right) := ⟨rfl, rfl, rfl, by decide +kernel, rfl, by decide +kernel, by decide +kernel⟩
abbrev s_law : Stmt := topS 36
theorem sc_law : FnScope ["script", "cells", "k"] ["script"] (defScope s_law) := ⟨rfl, rfl, rfl, by decide +kernel, rfl, by decide +kernel, by decide +kernel⟩
abbrev s_movement : Stmt := topS 25
theorem sc_movement : FnScope ["name", "done", "heard", "numbered", "states", "steps"] ["name", "done", "heard", "numbered"] (defScope s_movement) := ⟨rfl, rfl, rfl, by decide +kernel, rfl, by decide +kernel, by decide +kernel⟩
abbrev s_Planeq : Stmt := inClass (topS 22) 4
theorem sc_Planeq : FnScope ["self", "other"] ["self", "other"] (defScope s_Planeq) := ⟨rfl, rfl, rfl, by decide +kernel, rfl, by decide +kernel, by decide +kernel⟩
structure Txt2 (K : PySem.W.Frag) (mg : Str → Option Value) : Prop where
  t : Txt K mg
  d_law_told : DefAt K mg "_law_told" s_law_told ["label", "done", "known", "once"]
  d_law_due : DefAt K mg "_law_due" s_law_due ["once", "guarded"]
  d_law_rows : DefAt K mg "_law_rows" s_law_rows ["due"]
  d_law_made : DefAt K mg "_law_made" s_law_made ["once", "guarded", "way"]
  d_law_shown : DefAt K mg "_law_shown" s_law_shown ["scheme", "way"]
  d_law_spoilt : DefAt K mg "_law_spoilt" s_law_spoilt ["scheme", "well"]
  d_law_right : DefAt K mg "_law_right" s_law_right ["well"]
  d_law : DefAt K mg "law" s_law ["script"]
  d_movement : DefAt K mg "movement" s_movement ["name", "done", "heard", "numbered"]
structure PlanM (K : PySem.W.Frag) (mg : Str → Option Value) (C : Addr) : Prop where
  z_isinstance : mg "isinstance" = none
  c1 : PySem.W.findIn K (.ref C) "__class__" = some (some (.builtin "object.__class__"))
  c2 : PySem.W.specialIn K (.builtin "object.__class__") "__get__" = some (some (.builtin "getset_descriptor.__get__"))
  c3 : PySem.W.takesIn K (.builtin "object.__class__") = some true
  c4 : PySem.W.mroIn K C (.type "object") = some true
  m_eq : ∃ f fd, PySem.W.findIn K (.ref C) "__eq__" = some (some (.ref f)) ∧ PySem.W.isFn K (.ref f) = true ∧ Fun K "__eq__" "Plan.__eq__" s_Planeq f fd ∧ Binds K fd ["self", "other"] []
end Pz
namespace Pz
open PySem L2
/-! ### one step of a reading at a time -/
theorem Gr.well {F H F' H' H2 : Hp} {w : Addr} (g : Gr F H F' H') (fw : F' w = none) (s : Sm w H' H2) : Gr F H F' H2 :=
  ⟨g.le, fun b o e => s b o (fun z => by rw [z, fw] at e; cases e) (g.sub b o e), g.new⟩
theorem at_same {H H' : Hp} {b : Addr} {o : HO} (s : Same H H') (h : H b = some o) : H' b = some o := s b o h
theorem at_sm {w : Addr} {H H' : Hp} {b : Addr} {o : HO} (s : Sm w H H') (n : b ≠ w) (h : H b = some o) : H' b = some o := s b o n h
theorem ne_new {H : Hp} {a b : Addr} (n : H a = none) (h : H b ≠ none) : b ≠ a := fun z => h (by rw [z]; exact n)
theorem ne_kind {H : Hp} {a b : Addr} {o o' : HO} (h : H b = some o) (h' : H a = some o') (n : o ≠ o') : b ≠ a := fun z => by rw [z, h'] at h; cases h; exact n rfl
theorem none_back {H H' : Hp} {a : Addr} (s : Same H H') (n : H' a = none) : H a = none := same_none s n
theorem sqL_at {K : PySem.W.Frag} {H : Hp} {a : Addr} {xs : List V} (h : H a = some (.lst xs)) : SqL K H a xs := SqL.of h
theorem sqT_at {K : PySem.W.Frag} {H : Hp} {a : Addr} {xs : List V} (h : H a = some (.tup xs)) : SqT K H a xs := SqT.of h
theorem wl_same {H H' : Hp} {w : Addr} {N : Nat} (s : Same H H') (h : Wl H w N) : Wl H' w N := h.same s
section
variable {D : Ends} {σ σ' : St} {H : Hp} {Q : VK} {n b c : St → Hp → Prop} {r : VK} {te ta tb to ti : TE} {t u : TS}
theorem x_seq (h : t ⟨u ⟨n, r, b, c⟩, r, b, c⟩ σ H) : tSeq t u ⟨n, r, b, c⟩ σ H := h
theorem x_next (h : n σ H) : tNext ⟨n, r, b, c⟩ σ H := h
theorem x_asg {g : TG} (h : te σ H fun x H1 => g x σ H1 n) : tAsg te g ⟨n, r, b, c⟩ σ H := h
theorem x_drop (h : te σ H fun _ H1 => n σ H1) : tDrop te ⟨n, r, b, c⟩ σ H := h
theorem x_ret (h : te σ H r) : tRet te ⟨n, r, b, c⟩ σ H := h
theorem x_retN (h : r .non H) : tRetN ⟨n, r, b, c⟩ σ H := h
theorem x_ifS {k : TT} (h : k σ H fun d H1 => if d = true then t ⟨n, r, b, c⟩ σ H1 else u ⟨n, r, b, c⟩ σ H1) : tIfS k t u ⟨n, r, b, c⟩ σ H := h
theorem x_gname {i : Nat} {v : V} {Q : St → Hp → Prop} (h : Q (σ.set i (some v)) H) : gName i v σ H Q := h
theorem x_gtup {K : PySem.W.Frag} {m : Nat} {tg : TGs} {a : Addr} {xs : List V} {Q : St → Hp → Prop} (h1 : SqT K H a xs) (h2 : xs.length = m) (h : tg xs σ H Q) : gTup K m tg (.ref a) σ H Q := ⟨a, xs, rfl, h1, h2, h⟩
theorem x_gcons {tg : TG} {tgs : TGs} {v : V} {vs : List V} {Q : St → Hp → Prop} (h : tg v σ H fun σ' H' => tgs vs σ' H' Q) : gCons tg tgs (v :: vs) σ H Q := ⟨v, vs, rfl, h⟩
theorem x_gnil {Q : St → Hp → Prop} (h : Q σ H) : gNil [] σ H Q := ⟨rfl, h⟩
theorem x_var {i : Nat} {v : V} (e : σ[i]? = some (some v)) (h : Q v H) : tVar i σ H Q := ⟨v, e, h⟩
theorem x_c {v : V} (h : Q v H) : tC v σ H Q := h
theorem x_op {r2 : R2} (h : ta σ H fun x H1 => tb σ H1 fun y H2 => r2 x y H2 Q) : tOp r2 ta tb σ H Q := h
theorem x_un {r1 : V → Hp → VK → Prop} (h : ta σ H fun x H1 => r1 x H1 Q) : tUn r1 ta σ H Q := h
theorem x_test {k : TE} {Q : Bool → Hp → Prop} (h : k σ H fun x H' => ∃ d, x = .bl d ∧ Q d H') : tTest k σ H Q := h
theorem x_b {k : TE} {Q : Bool → Hp → Prop} (h : k σ H fun x H' => ∃ d, x = .bl d ∧ Q d H') : tB k σ H Q := h
theorem x_bl {d : Bool} {Q : Bool → Hp → Prop} (h : Q d H) : ∃ d', V.bl d = .bl d' ∧ Q d' H := ⟨d, rfl, h⟩
theorem x_not {k : TT} {Q : Bool → Hp → Prop} (h : k σ H fun d H1 => Q (!d) H1) : tNot k σ H Q := h
theorem x_notV (h : ta σ H fun x H1 => ∃ d, x = .bl d ∧ Q (.bl (!d)) H1) : tNotV ta σ H Q := h
theorem x_cb {r1 : List V → Hp → VK → Prop} {tas : TA} (h : tas σ H fun vs H1 => r1 vs H1 Q) : tCB r1 tas σ H Q := h
theorem x_cons {tr : TA} {Q : List V → Hp → Prop} (h : ta σ H fun x H1 => tr σ H1 fun xs H2 => Q (x :: xs) H2) : tCons ta tr σ H Q := h
theorem x_nil {Q : List V → Hp → Prop} (h : Q [] H) : tNil σ H Q := h
theorem x_m1 {r1 : V → List V → Hp → VK → Prop} (h : to σ H fun x H1 => (∃ a, x = .str a) ∧ te σ H1 fun y H2 => r1 x [y] H2 Q) : tM1 r1 to te σ H Q := h
theorem x_str {a : Str} {B : Prop} (h : B) : (∃ a', V.str a = .str a') ∧ B := ⟨⟨a, rfl⟩, h⟩
def NewB (k : Nat) (o : HO) (Q : VK) (H : Hp) : Prop := k ≤ sizeLine ∧ ∀ p, H p = none → Q (.ref p) (upd H p o)
theorem x_tup {tas : TA} (h : tas σ H fun xs H1 => NewB xs.length (.tup xs) Q H1) : tTup tas σ H Q := h
theorem x_lst {tas : TA} (h : tas σ H fun xs H1 => NewB xs.length (.lst xs) Q H1) : tLst tas σ H Q := h
theorem x_new {o : HO} {k : Nat} (hk : Nat.ble k 30 = true) (h : ∀ p H', H p = none → Same H H' → H' p = some o → Q (.ref p) H') : NewB k o Q H := ⟨Nat.le_trans (Nat.le_of_ble_eq_true hk) (by decide), fun p hp => h p _ hp (same_upd hp) upd_same⟩
theorem x_new0 {o : HO} (h : ∀ p H', H p = none → Same H H' → H' p = some o → Q (.ref p) H') : ∀ p, H p = none → Q (.ref p) (upd H p o) := fun p hp => h p _ hp (same_upd hp) upd_same
theorem x_sl {r1 : V → Option Int → Option Int → Hp → VK → Prop} {tl th : TO} (h : te σ H fun x H1 => tl σ H1 fun l H2 => th σ H2 fun v H3 => r1 x l v H3 Q) : tSl r1 te tl th σ H Q := h
theorem x_nopart {Q : Option Int → Hp → Prop} (h : Q none H) : tNoPart σ H Q := h
theorem x_part {Q : Option Int → Hp → Prop} (h : te σ H fun x H1 => ∃ i, x = .int i ∧ Q (some i) H1) : tPart te σ H Q := h
theorem x_int {i : Int} {B : Int → Prop} (h : B i) : ∃ j, V.int i = .int j ∧ B j := ⟨i, rfl, h⟩
theorem x_ite {k : TT} (h : k σ H fun d H1 => if d = true then ta σ H1 Q else tb σ H1 Q) : tIf k ta tb σ H Q := h
theorem x_and {k l : TT} {Q : Bool → Hp → Prop} (h : k σ H fun d H1 => if d = true then l σ H1 Q else Q false H1) : tAnd k l σ H Q := h
theorem x_or {k l : TT} {Q : Bool → Hp → Prop} (h : k σ H fun d H1 => if d = true then Q true H1 else l σ H1 Q) : tOr k l σ H Q := h
theorem x_andV (h : ta σ H fun x H1 => ∃ d, x = .bl d ∧ if d = true then tb σ H1 Q else Q (.bl false) H1) : tAndV ta tb σ H Q := h
theorem x_orV (h : ta σ H fun x H1 => ∃ d, x = .bl d ∧ if d = true then Q (.bl true) H1 else tb σ H1 Q) : tOrV ta tb σ H Q := h
theorem x_blV {d : Bool} {B : Bool → Prop} (h : B d) : ∃ d', V.bl d = .bl d' ∧ B d' := ⟨d, rfl, h⟩
theorem x_bm {K : PySem.W.Frag} {T : String} {r1 : V → List V → Hp → VK → Prop} {tas : TA} (h : to σ H fun x H1 => tyV K T x H1 ∧ tas σ H1 fun xs H2 => r1 x xs H2 Q) : tBM K T r1 to tas σ H Q := h
theorem x_bm0 {K : PySem.W.Frag} {T : String} {r1 : V → List V → Hp → VK → Prop} (h : to σ H fun x H1 => tyV K T x H1 ∧ r1 x [] H1 Q) : tBM0 K T r1 to σ H Q := h
theorem x_tyL {K : PySem.W.Frag} {l : Addr} {xs : List V} {B : Prop} (e : H l = some (.lst xs)) (h : B) : tyV K "list" (.ref l) H ∧ B := ⟨.inl ⟨rfl, xs, SqL.of e⟩, h⟩
theorem x_append {l : Addr} {xs : List V} {y : V} (e : H l = some (.lst xs)) (hl : xs.length ≤ 1000) (h : ∀ H', Sm l H H' → H' l = some (.lst (xs ++ [y])) → Q .non H') : rAppend (.ref l) [y] H Q :=
  ⟨l, xs, y, rfl, rfl, e, small1000 hl, h _ Sm.upd upd_same⟩
theorem x_ilist {K : PySem.W.Frag} {a : Addr} {xs : List V} {B : Addr → Prop} (e : SqL K H a xs) (h : B a) : ∃ a', V.ref a = .ref a' ∧ (∃ xs, SqL K H a' xs) ∧ B a' := ⟨a, rfl, ⟨xs, e⟩, h⟩
theorem x_il {K : PySem.W.Frag} {R : It → Hp → Prop} (h : te σ H fun x H1 => ∃ a, x = .ref a ∧ (∃ xs, SqL K H1 a xs) ∧ R (Itl K a) H1) : iList K te σ H R := h
theorem x_ixL {K : PySem.W.Frag} {p : Addr} {xs : List V} {i : Int} {v : V} (h : SqL K H p xs) (ha : atI xs i = some v) (q : Q v H) : rIxL K (.ref p) (.int i) H Q := ⟨p, xs, i, v, rfl, rfl, h, ha, q⟩
theorem x_ixT {K : PySem.W.Frag} {p : Addr} {xs : List V} {i : Int} {v : V} (h : SqT K H p xs) (ha : atI xs i = some v) (q : Q v H) : rIxT K (.ref p) (.int i) H Q := ⟨p, xs, i, v, rfl, rfl, h, ha, q⟩
theorem x_slL {K : PySem.W.Frag} {a : Addr} {xs : List V} {lo hi : Option Int} (h : SqL K H a xs) (q : ∀ p H', H p = none → Same H H' → H' p = some (.lst (cutV xs lo hi)) → Q (.ref p) H') : rSlL K (.ref a) lo hi H Q :=
  ⟨a, xs, rfl, h, fun p hp => q p _ hp (same_upd hp) upd_same⟩
theorem x_slS {z : Str} {lo hi : Option Int} (h : z.length ≤ sizeLine) (q : Q (.str (cutS z lo hi)) H) : rSlS (.str z) lo hi H Q := ⟨z, rfl, h, q⟩
theorem x_cat {a b : Addr} {xs zs : List V} (h1 : H a = some (.lst xs)) (h2 : H b = some (.lst zs)) (hl : xs.length + zs.length ≤ sizeLine) (q : ∀ p H', H p = none → Same H H' → H' p = some (.lst (xs ++ zs)) → Q (.ref p) H') : rCat (.ref a) (.ref b) H Q :=
  ⟨a, b, xs, zs, rfl, rfl, h1, h2, hl, fun p hp => q p _ hp (same_upd hp) upd_same⟩
theorem x_eqI {i j : Int} (q : Q (.bl (decide (i = j))) H) : rEq (.int i) (.int j) H Q := ⟨rfl, by rw [show decide (V.int i = V.int j) = decide (i = j) from decide_eq_decide.mpr ⟨fun z => V.int.inj z, fun z => by rw [z]⟩]; exact q⟩
theorem x_eqS {i j : Str} (q : Q (.bl (decide (i = j))) H) : rEq (.str i) (.str j) H Q := ⟨rfl, by rw [show decide (V.str i = V.str j) = decide (i = j) from decide_eq_decide.mpr ⟨fun z => V.str.inj z, fun z => by rw [z]⟩]; exact q⟩
theorem x_neI {i j : Int} (q : Q (.bl (!decide (i = j))) H) : rNe (.int i) (.int j) H Q := ⟨rfl, by rw [show decide (V.int i = V.int j) = decide (i = j) from decide_eq_decide.mpr ⟨fun z => V.int.inj z, fun z => by rw [z]⟩]; exact q⟩
theorem x_neS {i j : Str} (q : Q (.bl (!decide (i = j))) H) : rNe (.str i) (.str j) H Q := ⟨rfl, by rw [show decide (V.str i = V.str j) = decide (i = j) from decide_eq_decide.mpr ⟨fun z => V.str.inj z, fun z => by rw [z]⟩]; exact q⟩
theorem x_add {i j : Int} (q : Q (.int (i + j)) H) : rAdd (.int i) (.int j) H Q := ⟨i, j, rfl, rfl, q⟩
theorem x_sub {i j : Int} (q : Q (.int (i - j)) H) : rSub (.int i) (.int j) H Q := ⟨i, j, rfl, rfl, q⟩
theorem x_rI0 {g : Int → Int → V} {i j : Int} (q : Q (g i j) H) : rI0 g (.int i) (.int j) H Q := ⟨i, j, rfl, rfl, q⟩
theorem x_lenL {K : PySem.W.Frag} {p : Addr} {xs : List V} {B : List V → Prop} (h : SqL K H p xs) (q : B xs) : ∃ p' ys, [V.ref p] = [.ref p'] ∧ (SqL K H p' ys ∨ SqT K H p' ys) ∧ B ys := ⟨p, xs, rfl, .inl h, q⟩
theorem x_lenT {K : PySem.W.Frag} {p : Addr} {xs : List V} {B : List V → Prop} (h : SqT K H p xs) (q : B xs) : ∃ p' ys, [V.ref p] = [.ref p'] ∧ (SqL K H p' ys ∨ SqT K H p' ys) ∧ B ys := ⟨p, xs, rfl, .inr h, q⟩
def ListOf (K : PySem.W.Frag) (xs : List V) (H : Hp) (Q : VK) : Prop := ∃ p ys, xs = [V.ref p] ∧ (SqL K H p ys ∨ SqT K H p ys) ∧ ∀ l, H l = none → Q (.ref l) (upd H l (.lst ys))
theorem x_cblist {K : PySem.W.Frag} {tas : TA} (h : tas σ H fun vs H1 => ListOf K vs H1 Q) : tCB (fun xs H Q => ∃ p ys, xs = [V.ref p] ∧ (SqL K H p ys ∨ SqT K H p ys) ∧ ∀ l, H l = none → Q (.ref l) (upd H l (.lst ys))) tas σ H Q := h
theorem x_listof {K : PySem.W.Frag} {p : Addr} {xs : List V} (h : SqL K H p xs) (q : ∀ p H', H p = none → Same H H' → H' p = some (.lst xs) → Q (.ref p) H') : ListOf K [.ref p] H Q :=
  ⟨p, xs, rfl, .inl h, fun p hp => q p _ hp (same_upd hp) upd_same⟩
theorem x_neNil {a b : Addr} {xs : List V} {B : List V → Prop} (h1 : H a = some (.lst xs)) (h2 : H b = some (.lst [])) (h : B xs) : ∃ a' b' xs', V.ref a = .ref a' ∧ V.ref b = .ref b' ∧ H a' = some (.lst xs') ∧ H b' = some (.lst []) ∧ B xs' := ⟨a, b, xs, rfl, rfl, h1, h2, h⟩
theorem x_rU {g : Int → V} {i : Int} (q : Q (g i) H) : rU g (.int i) H Q := ⟨i, rfl, q⟩
theorem x_wipe {σ2 : St} {vs vs' : List Nat} {B : Prop} (e : wipe σ2 vs = wipe σ vs') (h : B) : wipe σ2 vs = wipe σ vs' ∧ B := ⟨e, h⟩
theorem x_ss {x y : Str} {B : Str → Str → Prop} (h : B x y) : ∃ a b, V.str x = .str a ∧ [V.str y] = [.str b] ∧ B a b := ⟨x, y, rfl, rfl, h⟩
theorem x_ii {x y : Int} {B : Int → Int → Prop} (h : B x y) : ∃ i j, [V.int x, V.int y] = [.int i, .int j] ∧ B i j := ⟨x, y, rfl, h⟩
theorem x_join {K : PySem.W.Frag} {a : Str} {p : Addr} {ys : List Str} {B : Str → List Str → Prop} (e : H p = some (.lst (ys.map V.str))) (hz : (ys.map (·.length)).sum + ys.length * a.length ≤ 16777216) (h : B a ys) :
    ∃ a' p', ∃ ys' : List Str, V.str a = .str a' ∧ [V.ref p] = [.ref p'] ∧ (SqL K H p' (ys'.map V.str) ∨ SqT K H p' (ys'.map V.str)) ∧ (ys'.map (·.length)).sum + ys'.length * a'.length ≤ 16777216 ∧ B a' ys' :=
  ⟨a, p, ys, rfl, rfl, .inl (SqL.of e), hz, h⟩
theorem same_sm {F H H' : Hp} {w : Addr} (s : Same F H) (n : F w = none) (e : Sm w H H') : Same F H' := fun b o h => e b o (fun z => by rw [z, n] at h; cases h) (s b o h)
theorem same_step {F H H' : Hp} (e : Same H H') (a : Same F H) : Same F H' := a.trans e
theorem same_smS {F H H' : Hp} {w : Addr} (e : Sm w H H') (a : Same F H) (n : F w = none) : Same F H' := same_sm a n e
theorem sm_same {w : Addr} {H H1 H2 : Hp} (s : Same H1 H2) (a : Sm w H H1) : Sm w H H2 := a.trans (Sm.same s)
theorem sm_sm {w : Addr} {H H1 H2 : Hp} (s : Sm w H1 H2) (a : Sm w H H1) : Sm w H H2 := a.trans s
theorem sm_new {w D : Addr} {H H1 H2 : Hp} (s : Sm D H1 H2) (n : H D = none) (a : Sm w H H1) : Sm w H H2 := fun b o nb e => s b o (fun z => by rw [z, n] at e; cases e) (a b o nb e)
def Lv (H H' : Hp) : Prop := ∀ b, H' b = none → H b = none
theorem lv_refl (H : Hp) : Lv H H := fun _ h => h
theorem lv_same {H H1 H2 : Hp} (s : Same H1 H2) (a : Lv H H1) : Lv H H2 := fun b h => a b (same_none s h)
theorem lv_sm {w : Addr} {H H1 H2 : Hp} (s : Sm w H1 H2) (n : H2 w ≠ none) (a : Lv H H1) : Lv H H2 := fun b h => a b (by
  cases q : H1 b with
  | none => rfl
  | some o =>
    by_cases z : b = w
    · subst z; exact absurd h n
    · rw [s b o z q] at h; cases h)
theorem lv_none {H H' : Hp} {a : Addr} (n : H' a = none) (l : Lv H H') : H a = none := l a n
theorem wl_sm {H H' : Hp} {w D : Addr} {N : Nat} (s : Sm D H H') (n : D ≠ w) (h : Wl H w N) : Wl H' w N := by
  obtain ⟨a, b, c, e, r⟩ := h
  exact ⟨a, b, c, s _ _ (Ne.symm n) e, r⟩
theorem wl_some {H : Hp} {w : Addr} {N : Nat} (h : Wl H w N) : H w ≠ none := h.ne
theorem x_call {sp : Sp} {E : XK} {tas : TA} (h : tas σ H fun vs H1 => sp vs H1 Q E) : tCall sp [] E tas σ H Q := by
  have e : (fun vs H1 => sp (vs ++ []) H1 Q E) = fun vs H1 => sp vs H1 Q E := by funext vs H1; rw [List.append_nil]
  show tas σ H (fun vs H1 => sp (vs ++ []) H1 Q E)
  rw [e]; exact h
theorem x_meth {C : Addr} {m : Str} {sp : Sp} {E : XK} {tas : TA} (h : ta σ H fun x H1 => ∃ a dx fs, x = .ref a ∧ H1 a = some (.ins C dx fs) ∧ fs.lookup m = none ∧ tas σ H1 fun vs H2 => sp (x :: vs) H2 Q E) : tMeth C m sp [] E ta tas σ H Q := by
  have e : (fun x H1 => ∃ a dx fs, x = V.ref a ∧ H1 a = some (.ins C dx fs) ∧ fs.lookup m = none ∧ tas σ H1 fun vs H2 => sp (x :: (vs ++ [])) H2 Q E) = fun x H1 => ∃ a dx fs, x = V.ref a ∧ H1 a = some (.ins C dx fs) ∧ fs.lookup m = none ∧ tas σ H1 fun vs H2 => sp (x :: vs) H2 Q E := by
    funext x H1; simp only [List.append_nil]
  show ta σ H (fun x H1 => ∃ a dx fs, x = V.ref a ∧ H1 a = some (.ins C dx fs) ∧ fs.lookup m = none ∧ tas σ H1 fun vs H2 => sp (x :: (vs ++ [])) H2 Q E)
  rw [e]; exact h
theorem x_plan {C p : Addr} {F : Hp} {cols : List Str} {kds : List KD} {chk : List (List Int)} {m : Str} {B : Prop} (PA : PlanAt C F p cols kds chk) (sF : Same F H) (h1 : m ≠ "_columns") (h2 : m ≠ "_kinds") (h3 : m ≠ "_checks") (b : B) :
    ∃ a dx fs, V.ref p = .ref a ∧ H a = some (.ins C dx fs) ∧ fs.lookup m = none ∧ B := by
  obtain ⟨dx, c, k, hh, e, _⟩ := PA
  exact ⟨p, dx, _, rfl, sF _ _ e, pf3_none h1 h2 h3, b⟩
theorem x_draw {w : Addr} {m : Int} {N : Nat} {E : XK} (h : Wl H w N) (hN : N ≤ 1000000000) (m0 : 0 < m) (m1 : m < 2 ^ 100) (q : ∀ (r : Int) (H' : Hp), 0 ≤ r → r < m → Sm w H H' → Wl H' w (N + 2) → Q (.int r) H') : spPick [.ref w, .int m] H Q E :=
  ⟨w, m, N, rfl, h, hN, m0, m1, q⟩
theorem x_addS {x y : Str} {B : Str → Str → Prop} (hz : x.length + y.length ≤ sizeLine) (h : B x y) : ∃ i j, V.str x = .str i ∧ V.str y = .str j ∧ i.length + j.length ≤ sizeLine ∧ B i j := ⟨x, y, rfl, rfl, hz, h⟩
theorem x_rng1 {tas : TA} {R : It → Hp → Prop} (h : tas σ H fun vs H1 => ∃ j : Int, vs = [.int j] ∧ -(2 ^ 62) ≤ j ∧ j < 2 ^ 62 ∧ R (Itr 0 j.toNat) H1) : iRng1 tas σ H R := h
theorem x_rngI {j : Int} {B : Int → Prop} (h0 : -(2 ^ 62) ≤ j) (h1 : j < 2 ^ 62) (h : B j) : ∃ j' : Int, [V.int j] = [.int j'] ∧ -(2 ^ 62) ≤ j' ∧ j' < 2 ^ 62 ∧ B j' := ⟨j, rfl, h0, h1, h⟩
theorem gr_step {F H F' H' H2 : Hp} (e : Same H' H2) (g : Gr F H F' H') : Gr F H F' H2 := g.step e
theorem gr_well {F H F' H' H2 : Hp} {w : Addr} (s : Sm w H' H2) (fw : F' w = none) (g : Gr F H F' H') : Gr F H F' H2 := g.well fw s
theorem x_pow {g : Int → Int → V} {i j : Int} (hc : CPow i j) (q : Q (g i j) H) : rI CPow g (.int i) (.int j) H Q := ⟨i, j, rfl, rfl, hc, q⟩
theorem x_strI {i : Int} {B : Int → Prop} (h1 : i.natAbs.log2 < 1920) (h : B i) : ∃ i', [V.int i] = [.int i'] ∧ i'.natAbs.log2 < 1920 ∧ B i' := ⟨i, rfl, h1, h⟩
theorem x_midT {k : TT} {Q : Bool → Hp → Prop} (Mid : Bool → Hp → Prop) (h1 : k σ H Mid) (h2 : ∀ d H', Mid d H' → Q d H') : tMidT k σ H Q := ⟨Mid, h1, h2⟩
theorem x_mid (Mid : V → Hp → Prop) (h1 : te σ H Mid) (h2 : ∀ d H', Mid d H' → Q d H') : tMid te σ H Q := ⟨Mid, h1, h2⟩
theorem x_cut (Mid : St → Hp → Prop) (h1 : t ⟨Mid, r, b, c⟩ σ H) (h2 : ∀ σ' H', Mid σ' H' → u ⟨n, r, b, c⟩ σ' H') : C8.tCut t u ⟨n, r, b, c⟩ σ H := ⟨Mid, h1, h2⟩
theorem x_gsub {r3 : TSet} {v : V} {Q : St → Hp → Prop} (h : to σ H fun o H1 => ti σ H1 fun i H2 => r3 o i v H2 fun H3 => Q σ H3) : gSub to ti r3 v σ H Q := h
theorem x_setL {p : Addr} {xs : List V} {k : Int} {j : Nat} {v : V} {Q : Hp → Prop} (e : H p = some (.lst xs)) (hj : ixN xs.length k = some j) (q : ∀ H', Sm p H H' → H' p = some (.lst (xs.set j v)) → Q H') : rSetL (.ref p) (.int k) v H Q :=
  ⟨p, xs, k, j, rfl, rfl, e, hj, q _ Sm.upd upd_same⟩
theorem x_rep {a : Addr} {xs : List V} {k : Int} (h : H a = some (.lst xs)) (k0 : -(2 ^ 63) ≤ k) (k1 : k < 2 ^ 63) (hz : xs.length * k.toNat ≤ sizeLine) (q : ∀ p H', H p = none → Same H H' → H' p = some (.lst (List.replicate k.toNat xs).flatten) → Q (.ref p) H') : rRep (.ref a) (.int k) H Q :=
  ⟨a, k, xs, rfl, rfl, h, k0, k1, hz, fun p hp => q p _ hp (same_upd hp) upd_same⟩
theorem x_repr {x : V} {d : PyData} {F : Hp} {m n : Nat} (sF : Same F H) (hR : R F d x) (hs : Shw m n d) (hm : m ≤ 2 ^ 19) (hn : n ≤ 100) (q : Q (.str d.shown) H) : rRepr [x] H Q :=
  ⟨x, d, F, rfl, sF, hR, (hs.fits hm hn).1, (hs.fits hm hn).2.1, (hs.fits hm hn).2.2, q⟩
def FldB (K : PySem.W.Frag) (x : V) (f : Str) (H : Hp) (Q : VK) : Prop := ∃ a C dx fs v, x = .ref a ∧ H a = some (.ins C dx fs) ∧ Cls K C ∧ NoAttr K C f ∧ fs.lookup f = some v ∧ Q v H
theorem x_fld {K : PySem.W.Frag} {f : Str} (h : ta σ H fun x H1 => FldB K x f H1 Q) : tFld K ta f σ H Q := h
theorem x_fldI {K : PySem.W.Frag} {a C dx : Addr} {fs : List (Str × V)} {f : Str} {v : V} (h : H a = some (.ins C dx fs)) (cl : Cls K C) (n : NoAttr K C f) (l : fs.lookup f = some v) (q : Q v H) : FldB K (.ref a) f H Q := ⟨a, C, dx, fs, v, rfl, h, cl, n, l, q⟩
def SFldB (K : PySem.W.Frag) (f : Str) (n : St → Hp → Prop) (y x : V) (σ : St) (H : Hp) : Prop := ∃ a C dx fs, x = .ref a ∧ H a = some (.ins C dx fs) ∧ Cls K C ∧ NoAttr K C f ∧ fs.length < 1000 ∧ n σ (upd H a (.ins C dx (putF f y fs)))
theorem x_sfld {K : PySem.W.Frag} {f : Str} (h : tb σ H fun y H1 => ta σ H1 fun x H2 => SFldB K f n y x σ H2) : sFld K ta tb f ⟨n, r, b, c⟩ σ H := h
theorem x_sfldI {K : PySem.W.Frag} {a C dx : Addr} {fs : List (Str × V)} {f : Str} {y : V} (h : H a = some (.ins C dx fs)) (cl : Cls K C) (no : NoAttr K C f) (l : Nat.ble fs.length 900 = true) (q : ∀ H', Sm a H H' → H' a = some (.ins C dx (putF f y fs)) → n σ H') : SFldB K f n y (.ref a) σ H :=
  ⟨a, C, dx, fs, rfl, h, cl, no, Nat.lt_of_le_of_lt (Nat.le_of_ble_eq_true l) (by decide), q _ Sm.upd upd_same⟩
theorem x_prop {C : Addr} {sp : Sp} {E : XK} (h : ta σ H fun x H1 => ∃ a dx fs, x = .ref a ∧ H1 a = some (.ins C dx fs) ∧ sp [.ref a] H1 Q E) : tProp C sp [] E ta σ H Q := h
theorem x_planP {C p : Addr} {F : Hp} {cols : List Str} {kds : List KD} {chk : List (List Int)} {B : Addr → Prop} (PA : PlanAt C F p cols kds chk) (sF : Same F H) (b : B p) : ∃ a dx fs, V.ref p = .ref a ∧ H a = some (.ins C dx fs) ∧ B a := by
  obtain ⟨dx, c, k, hh, e, _⟩ := PA
  exact ⟨p, dx, _, rfl, sF _ _ e, b⟩
theorem x_par {i j : Nat} {tas : TA} (h : tas σ H fun vs H1 => ∃ v w, vs = [v, w] ∧ n ((σ.set i (some v)).set j (some w)) H1) : tPar i j tas ⟨n, r, b, c⟩ σ H := h
theorem x_two {v w : V} {B : V → V → Prop} (h : B v w) : ∃ v' w', [v, w] = [v', w'] ∧ B v' w' := ⟨v, w, rfl, h⟩
theorem x_yes {A B : Hp → Prop} (h : A H) : tYes σ H (fun d H3 => if d = true then A H3 else B H3) := by
  show if true = true then A H else B H
  rw [if_pos rfl]
  exact h
theorem x_chain {r1 r2 : R2} {tc : TE} (h : ta σ H fun x H1 => tb σ H1 fun y H2 => r1 x y H2 fun z H3 => ∃ k, z = .bl k ∧ (if k = true then tc σ H3 fun w' H4 => r2 y w' H4 Q else Q (.bl false) H3)) : tChain r1 r2 ta tb tc σ H Q := h
def ErrB (C : Addr) (W : WX) (v : V) (σ : St) (H1 : Hp) : Prop := ∀ d, H1 d = none → W (.ref C) (some d) σ (upd H1 d (xdV v))
theorem x_err {C : Addr} {W : WX} (h : te σ H fun v H1 => ErrB C W v σ H1) : tErr C W te D σ H := h
theorem x_errI {C : Addr} {W : WX} {v : V} (h : ∀ d H', H d = none → Same H H' → H' d = some (xdV v) → W (.ref C) (some d) σ H') : ErrB C W v σ H := fun d hd => h d _ hd (same_upd hd) upd_same
def DGetB (x y : V) (H : Hp) (Q : VK) : Prop := ∃ a v, x = .ref a ∧ DGet H a y (some v) ∧ Q v H
theorem x_dget {td ty : TE} (h : td σ H fun x H1 => ty σ H1 fun y H2 => DGetB x y H2 Q) : tDGet td ty σ H Q := h
theorem x_dgetK {a : Addr} {kvs : List (Key × V)} {k : Key} {v : V} (h : H a = some (.dK kvs)) (e : valV kvs k = some v) (q : Q v H) : DGetB (.ref a) (kV k) H Q := ⟨a, v, rfl, .inl ⟨kvs, k, .inl h, rfl, e.symm⟩, q⟩
theorem x_dgetS {a : Addr} {kvs : List (Key × V)} {k : Str} {v : V} (h : H a = some (.dK kvs)) (e : valV kvs (Sum.inr k) = some v) (q : Q v H) : DGetB (.ref a) (.str k) H Q := ⟨a, v, rfl, .inl ⟨kvs, Sum.inr k, .inl h, rfl, e.symm⟩, q⟩
theorem x_dgetT {a b : Addr} {kvs : List (List Key × V)} {k : List Key} {v : V} (h : H a = some (.dT kvs)) (hb : H b = some (.tup (k.map kV))) (e : valV kvs k = some v) (q : Q v H) : DGetB (.ref a) (.ref b) H Q := ⟨a, v, rfl, .inr ⟨kvs, k, b, .inl h, rfl, hb, e.symm⟩, q⟩
def DNinB (x y : V) (H : Hp) (Q : VK) : Prop := ∃ a o, x = .ref a ∧ DGet H a y o ∧ Q (.bl (!o.isSome)) H
theorem x_dnin {td ty : TE} (h : ty σ H fun y H1 => td σ H1 fun x H2 => DNinB x y H2 Q) : tDNotIn ty td σ H Q := h
theorem x_dninS {a : Addr} {kvs : List (Key × V)} {k : Str} (h : H a = some (.dK kvs)) (q : Q (.bl (!(valV kvs (Sum.inr k)).isSome)) H) : DNinB (.ref a) (.str k) H Q := ⟨a, _, rfl, .inl ⟨kvs, Sum.inr k, .inl h, rfl, rfl⟩, q⟩
theorem x_dninK {a : Addr} {kvs : List (Key × V)} {k : Key} (h : H a = some (.dK kvs)) (q : Q (.bl (!(valV kvs k).isSome)) H) : DNinB (.ref a) (kV k) H Q := ⟨a, _, rfl, .inl ⟨kvs, k, .inl h, rfl, rfl⟩, q⟩
theorem x_dninT {a b : Addr} {kvs : List (List Key × V)} {k : List Key} (h : H a = some (.dT kvs)) (hb : H b = some (.tup (k.map kV))) (q : Q (.bl (!(valV kvs k).isSome)) H) : DNinB (.ref a) (.ref b) H Q := ⟨a, _, rfl, .inr ⟨kvs, k, b, .inl h, rfl, hb, rfl⟩, q⟩
theorem x_mulW {i j : Int} {g : Int → Int → V} (hc : CMulW i j) (q : Q (g i j) H) : rI CMulW g (.int i) (.int j) H Q := ⟨i, j, rfl, rfl, hc, q⟩
theorem x_isN {B : Prop} (h : B) : V.non = .non ∧ B := ⟨rfl, h⟩
def Z3B (K : PySem.W.Frag) (vs : List V) (H1 : Hp) (R : It → Hp → Prop) : Prop := ∃ a b c xs ys zs, vs = [.ref a, .ref b, .ref c] ∧ SqL K H1 a xs ∧ SqL K H1 b ys ∧ SqL K H1 c zs ∧ R (It3 K a b c) H1
theorem x_iz3 {K : PySem.W.Frag} {tas : TA} {R : It → Hp → Prop} (h : tas σ H fun vs H1 => Z3B K vs H1 R) : iZip3 K tas σ H R := h
theorem x_z3I {K : PySem.W.Frag} {a b c : Addr} {xs ys zs : List V} {R : It → Hp → Prop} (h1 : SqL K H a xs) (h2 : SqL K H b ys) (h3 : SqL K H c zs) (q : R (It3 K a b c) H) : Z3B K [.ref a, .ref b, .ref c] H R := ⟨a, b, c, xs, ys, zs, rfl, h1, h2, h3, q⟩
/-! comprehensions and loops -/
def LcB (J : It) (g : TG) (tt : TT) (te : TE) (vs : List Nat) (σ : St) (Q : VK) (H1 : Hp) : Prop := ∀ D, H1 D = none → ∃ W : Nat → Nat → Hp → Prop, (∃ m, W 0 m (upd H1 D (.lst []))) ∧ ∀ i m H, W i m H →
  (J.stop i H ∧ Q (.ref D) H) ∨ (J.go i H ∧ ∃ Nx : Hp → Prop, (∀ H', Nx H' → ∃ m', m' < m ∧ W (i + 1) m' H') ∧ ∀ x H', J.yld i H x H' → g x (wipe σ vs) H' fun σ2 H2 => wipe σ2 vs = wipe σ vs ∧ tt σ2 H2 fun b H3 =>
    if b = true then te σ2 H3 fun y H4 => ∃ acc, H4 D = some (.lst acc) ∧ acc.length < sizeLine ∧ Nx (upd H4 D (.lst (acc ++ [y]))) else Nx H3)
theorem x_lc {wi : TI} {g : TG} {tt : TT} {vs : List Nat} (h : wi σ H fun J H1 => LcB J g tt te vs σ Q H1) : tLc wi g tt te vs σ H Q := h
def ForB (J : It) (g : TG) (tb : TS) (D : Ends) (σ : St) (H1 : Hp) : Prop := ∃ W : Nat → Nat → St → Hp → Prop, (∃ m, W 0 m σ H1) ∧ ∀ i m σ H, W i m σ H →
  (J.stop i H ∧ D.nx σ H) ∨ (J.go i H ∧ ∃ N : St → Hp → Prop, (∀ σ' H', N σ' H' → ∃ m', m' < m ∧ W (i + 1) m' σ' H') ∧ ∀ x H', J.yld i H x H' → g x σ H' fun σ2 H2 => tb { D with nx := N, ct := N, bk := D.nx } σ2 H2)
theorem x_for {wi : TI} {g : TG} {tb : TS} (h : wi σ H fun J H1 => ForB J g tb D σ H1) : tFor wi g tb D σ H := h
theorem forb_list {K : PySem.W.Frag} {a : Addr} {xs : List V} {g : TG} {tb : TS} (Pv : Nat → St → Hp → Prop) (h0 : Pv 0 σ H) (hl : ∀ i σ H, i ≤ xs.length → Pv i σ H → SqL K H a xs)
    (hs : ∀ i x σ H, xs[i]? = some x → Pv i σ H → g x σ H fun σ2 H2 => tb ⟨Pv (i + 1), r, n, Pv (i + 1)⟩ σ2 H2) (hd : ∀ σ H, Pv xs.length σ H → n σ H) : ForB (Itl K a) g tb ⟨n, r, b, c⟩ σ H :=
  for_list (K := K) (a := a) (xs := xs) Pv h0 hl hs hd
theorem forb_range {lo : Int} {m : Nat} {g : TG} {tb : TS} (Pv : Nat → St → Hp → Prop) (h0 : Pv 0 σ H)
    (hs : ∀ i σ H, i < m → Pv i σ H → g (.int (lo + i)) σ H fun σ2 H2 => tb ⟨Pv (i + 1), r, n, Pv (i + 1)⟩ σ2 H2) (hd : ∀ σ H, Pv m σ H → n σ H) : ForB (Itr lo m) g tb ⟨n, r, b, c⟩ σ H :=
  for_range Pv h0 hs hd
/-- values without objects -/
theorem lcb_vals {K : PySem.W.Frag} {a : Addr} {xs : List V} {g : TG} {vs : List Nat} (ys : List V) (hs : SqL K H a xs) (hl : ys.length = xs.length) (hz : xs.length ≤ 1000)
    (step : ∀ (i : Nat) (x y : V) (H' : Hp) (Q' : VK), xs[i]? = some x → ys[i]? = some y → Same H H' → (∀ H4, Same H' H4 → Q' y H4) → g x (wipe σ vs) H' fun σ2 H2 => wipe σ2 vs = wipe σ vs ∧ te σ2 H2 Q')
    (hd : ∀ D H', H D = none → Same H H' → H' D = some (.lst ys) → Q (.ref D) H') : LcB (Itl K a) g tYes te vs σ Q H := by
  intro D hD
  refine lc_list (K := K) (a := a) (xs := xs) (tt := tYes) (fun i H' => Same H H' ∧ H' D = some (.lst (ys.take i))) ⟨same_upd hD, upd_same⟩ (fun i H' _ h => h.1.seq hs) (fun i x H' hx h => ?_) (fun H' h => ?_)
  · have hi := (List.getElem?_eq_some_iff.mp hx).1
    have ey : ys[i]? = some (ys[i]'(by omega)) := List.getElem?_eq_getElem (by omega)
    generalize ys[i]'(by omega) = y at ey
    refine step i x y H' _ hx ey h.1 fun H4 s4 => ?_
    refine ⟨_, s4 _ _ h.2, small1000 (by rw [List.length_take]; omega), fun b o e => ?_, ?_⟩
    · rw [upd_ne (fun z => by rw [z, hD] at e; cases e)]
      exact s4 _ _ (h.1 _ _ e)
    · rw [upd_same, List.take_add_one, ey]
      rfl
  · obtain ⟨s, e⟩ := h
    rw [List.take_of_length_le (by omega)] at e
    exact hd D H' hD s e
theorem lcb_rangeV {lo : Int} {m : Nat} {g : TG} {vs : List Nat} (ys : List V) (hl : ys.length = m) (hz : m ≤ 1000)
    (step : ∀ (i : Nat) (y : V) (H' : Hp) (Q' : VK), i < m → ys[i]? = some y → Same H H' → (∀ H4, Same H' H4 → Q' y H4) → g (.int (lo + i)) (wipe σ vs) H' fun σ2 H2 => wipe σ2 vs = wipe σ vs ∧ te σ2 H2 Q')
    (hd : ∀ D H', H D = none → Same H H' → H' D = some (.lst ys) → Q (.ref D) H') : LcB (Itr lo m) g tYes te vs σ Q H := by
  intro D hD
  refine lc_range (tt := tYes) (fun i H' => Same H H' ∧ H' D = some (.lst (ys.take i))) ⟨same_upd hD, upd_same⟩ (fun i H' hi h => ?_) (fun H' h => ?_)
  · have ey : ys[i]? = some (ys[i]'(by omega)) := List.getElem?_eq_getElem (by omega)
    generalize ys[i]'(by omega) = y at ey
    refine step i y H' _ hi ey h.1 fun H4 s4 => ?_
    refine ⟨_, s4 _ _ h.2, small1000 (by rw [List.length_take]; omega), fun b o e => ?_, ?_⟩
    · rw [upd_ne (fun z => by rw [z, hD] at e; cases e)]
      exact s4 _ _ (h.1 _ _ e)
    · rw [upd_same, List.take_add_one, ey]
      rfl
  · obtain ⟨s, e⟩ := h
    rw [List.take_of_length_le (by omega)] at e
    exact hd D H' hD s e
end
theorem lcb_zip3 {K : PySem.W.Frag} {a b c : Addr} {xs1 xs2 xs3 : List V} {g : TG} {te : TE} {vs : List Nat} {σ : St} {H : Hp} {Q : VK} {n : Nat} (ys : List V) (s1 : SqL K H a xs1) (s2 : SqL K H b xs2) (s3 : SqL K H c xs3) (l1 : xs1.length = n) (l2 : xs2.length = n) (l3 : xs3.length = n) (ly : ys.length = n) (hz : n ≤ 1000)
    (step : ∀ (i : Nat) (T : Addr) (x y z v : V) (H' : Hp) (Q' : VK), xs1[i]? = some x → xs2[i]? = some y → xs3[i]? = some z → ys[i]? = some v → Same H H' → H' T = some (.tup [x, y, z]) → (∀ H4, Same H' H4 → Q' v H4) → g (.ref T) (wipe σ vs) H' fun σ2 H2 => wipe σ2 vs = wipe σ vs ∧ te σ2 H2 Q')
    (hd : ∀ D H', H D = none → Same H H' → H' D = some (.lst ys) → Q (.ref D) H') : LcB (It3 K a b c) g tYes te vs σ Q H := by
  intro D hD
  refine lc_it (tt := tYes) (walk3 (K := K) (a := a) (b := b) (c := c) l1 l2 l3) (fun i H' => Same H H' ∧ H' D = some (.lst (ys.take i))) ⟨same_upd hD, upd_same⟩ (fun i H' _ h => ⟨h.1.seq s1, h.1.seq s2, h.1.seq s3⟩) ?_ ?_
  · rintro i x H1 H2 hi ⟨sa, ea⟩ ⟨T, x1, x2, x3, rfl, hT, rfl, e1, e2, e3⟩
    have sT := same_upd (o := .tup [x1, x2, x3]) hT
    have ey : ys[i]? = some (ys[i]'(by omega)) := List.getElem?_eq_getElem (by omega)
    generalize ys[i]'(by omega) = v at ey
    refine step i T x1 x2 x3 v _ _ e1 e2 e3 ey (sa.trans sT) upd_same fun H4 s4 => ⟨_, s4 _ _ (sT _ _ ea), small1000 (by rw [List.length_take]; omega), fun p o e => ?_, ?_⟩
    · rw [upd_ne (fun z => by rw [z, hD] at e; cases e)]
      exact s4 _ _ (sT _ _ (sa _ _ e))
    · rw [upd_same, List.take_add_one, ey]
      rfl
  · rintro H1 ⟨sa, ea⟩
    rw [List.take_of_length_le (by omega)] at ea
    exact hd D H1 hD sa ea
def DcB (J : It) (g : TG) (tt : TT) (tk tv : TE) (vs : List Nat) (σ : St) (Q : VK) (H1 : Hp) : Prop := ∀ D, H1 D = none → ∃ W : Nat → Nat → Hp → Prop, (∃ m, W 0 m (upd H1 D (.dK []))) ∧ ∀ i m H, W i m H →
  (J.stop i H ∧ Q (.ref D) H) ∨ (J.go i H ∧ ∃ Nx : Hp → Prop, (∀ H', Nx H' → ∃ m', m' < m ∧ W (i + 1) m' H') ∧ ∀ x H', J.yld i H x H' → g x (wipe σ vs) H' fun σ2 H2 => wipe σ2 vs = wipe σ vs ∧ tt σ2 H2 fun b H3 =>
    if b = true then tk σ2 H3 fun y H4 => tv σ2 H4 fun z H5 => ∃ kvs k, y = kV k ∧ H5 D = some (.dK kvs) ∧ kvs.length < sizeLine ∧ Nx (upd H5 D (.dK (putK kvs k z))) else Nx H3)
theorem x_dc {wi : TI} {g : TG} {tt : TT} {tk tv : TE} {vs : List Nat} {σ : St} {H : Hp} {Q : VK} (h : wi σ H fun J H1 => DcB J g tt tk tv vs σ Q H1) : tDc wi g tt tk tv vs σ H Q := h
theorem valV_mem {κ : Type} [DecidableEq κ] : ∀ {kvs : List (κ × V)} {i : Nat} {k : κ} {v : V}, (kvs.map (·.1)).Nodup → kvs[i]? = some (k, v) → valV kvs k = some v
  | [], _, _, _, _, e => by simp at e
  | (k0, v0) :: kvs, 0, k, v, _, e => by
    simp only [List.getElem?_cons_zero, Option.some.injEq, Prod.mk.injEq] at e
    rw [valV_pos e.1, e.2]
  | (k0, v0) :: kvs, i + 1, k, v, nd, e => by
    simp only [List.getElem?_cons_succ] at e
    have nd2 := List.nodup_cons.mp nd
    have : k0 ≠ k := fun z => nd2.1 (List.mem_map.mpr ⟨(k, v), List.mem_of_getElem? e, z.symm⟩)
    rw [valV_neg this]
    exact valV_mem nd2.2 e
theorem valV_not {κ : Type} [DecidableEq κ] : ∀ {kvs : List (κ × V)} {k : κ}, k ∉ kvs.map (·.1) → valV kvs k = none
  | [], _, _ => rfl
  | (k0, v0) :: kvs, k, h => by
    have : k0 ≠ k := fun z => h (by rw [z]; exact List.mem_cons_self)
    rw [valV_neg this]
    exact valV_not fun z => h (List.mem_cons_of_mem _ z)
theorem cutV_from (xs : List V) (k : Nat) : cutV xs (some (k : Int)) none = xs.drop k := by
  unfold cutV
  rw [HT.sIx_nat, HT.sIx_none]
  rcases Nat.le_total k xs.length with h | h
  · rw [Nat.min_eq_left h]; exact List.take_of_length_le (by simp)
  · rw [Nat.min_eq_right h, List.drop_eq_nil_of_le h, List.drop_eq_nil_of_le (Nat.le_refl _), List.take_nil]
theorem cutV_to (xs : List V) (k : Nat) : cutV xs none (some (k : Int)) = xs.take k := by
  unfold cutV
  rw [HT.sIx_nat, HT.sIx_none, List.drop_zero, Nat.sub_zero]
  rcases Nat.le_total k xs.length with h | h
  · rw [Nat.min_eq_left h]
  · rw [Nat.min_eq_right h, List.take_of_length_le h, List.take_of_length_le (Nat.le_refl _)]
theorem cutS_to (z : Str) (k : Nat) : TL.tl (cutS z none (some (k : Int))) = (TL.tl z).take k := by
  show ((z.cps.toList.drop (HT.sIx z.length 0 none)).take (HT.sIx z.length z.length (some (k : Int)) - HT.sIx z.length 0 none)).toArray.toList = z.cps.toList.take k
  rw [HT.sIx_nat, HT.sIx_none, List.drop_zero, Nat.sub_zero]
  have : z.length = z.cps.toList.length := by simp [Str.length]
  rw [this]
  rcases Nat.le_total k z.cps.toList.length with h | h
  · rw [Nat.min_eq_left h]
  · rw [Nat.min_eq_right h, List.take_of_length_le h, List.take_of_length_le (Nat.le_refl _)]
theorem at0 {α : Type} {xs : List α} {v : α} (h : xs[0]? = some v) : atI xs 0 = some v := atI_nat (j := 0) h
theorem at1 {α : Type} {xs : List α} {v : α} (h : xs[1]? = some v) : atI xs 1 = some v := atI_nat (j := 1) h
theorem at2 {α : Type} {xs : List α} {v : α} (h : xs[2]? = some v) : atI xs 2 = some v := atI_nat (j := 2) h
theorem ixN_nat {n j : Nat} (h : j < n) : ixN n (j : Int) = some j := by
  unfold ixN
  rw [if_pos (by omega), if_pos (by omega)]
  rfl
theorem at_m1 {α : Type} {xs : List α} {v : α} : atI (xs ++ [v]) (-1) = some v := by
  have e : ixN (xs ++ [v]).length (-1) = some xs.length := by
    have l : (xs ++ [v]).length = xs.length + 1 := by simp
    unfold ixN
    rw [l, if_neg (by decide), if_pos (by omega)]
    congr 1
    omega
  unfold atI
  rw [e]
  show (xs ++ [v])[xs.length]? = some v
  simp
theorem cut_init (xs : List V) (x : V) : cutV (xs ++ [x]) none (some (-1)) = xs := by
  unfold cutV
  have l : (xs ++ [x]).length = xs.length + 1 := by simp
  have e : HT.sIx (xs ++ [x]).length (xs ++ [x]).length (some (-1)) = xs.length := by
    unfold HT.sIx
    rw [l]
    show (if (-1 : Int) < 0 then _ else _) = _
    rw [if_pos (by decide)]
    omega
  rw [e, HT.sIx_none, List.drop_zero, Nat.sub_zero]
  simp
theorem RA.unsnoc {F : Hp} : ∀ {ds : List PyData} {d : PyData} {xs : List V}, RA F (ds ++ [d]) xs → ∃ xs0 x, xs = xs0 ++ [x] ∧ RA F ds xs0 ∧ R F d x
  | [], d, xs, h => by
    simp only [List.nil_append, RA] at h
    obtain ⟨x, r, rfl, h1, rfl⟩ := h
    exact ⟨[], x, rfl, by simp [RA], h1⟩
  | e :: ds, d, xs, h => by
    simp only [List.cons_append, RA] at h
    obtain ⟨x, r, rfl, h1, h2⟩ := h
    obtain ⟨xs0, y, rfl, h3, h4⟩ := RA.unsnoc h2
    exact ⟨x :: xs0, y, rfl, by simp only [RA]; exact ⟨x, xs0, rfl, h1, h3⟩, h4⟩
theorem set_set_comm {σ : St} {u v : Nat} {x y : Option V} (h : u ≠ v) : (σ.set u x).set v y = (σ.set v y).set u x := List.set_comm x y h
theorem wipe_cut {σ : St} {v : Nat} {x : Option V} : ∀ us : List Nat, (wipe (σ.set v x) us).set v none = (wipe σ us).set v none
  | [] => List.set_set _
  | u :: us => by
    show ((wipe (σ.set v x) us).set u none).set v none = ((wipe σ us).set u none).set v none
    by_cases h : u = v
    · subst h
      rw [wipe_cut us]
    · rw [set_set_comm h, wipe_cut us, set_set_comm h]
theorem wipe_set {σ : St} {v : Nat} {x : Option V} : ∀ {us : List Nat}, v ∈ us → wipe (σ.set v x) us = wipe σ us
  | [], h => nomatch h
  | u :: us, h => by
    show (wipe (σ.set v x) us).set u none = (wipe σ us).set u none
    by_cases e : v = u
    · subst e; exact wipe_cut us
    · rw [wipe_set ((List.mem_cons.mp h).resolve_left e)]
theorem wipe_in {σ : St} : ∀ {us vs : List Nat}, (∀ v ∈ us, v ∈ vs) → wipe (wipe σ us) vs = wipe σ vs
  | [], _, _ => rfl
  | u :: us, vs, h => by
    show wipe ((wipe σ us).set u none) vs = wipe σ vs
    rw [wipe_set (h u List.mem_cons_self), wipe_in fun v hv => h v (List.mem_cons_of_mem _ hv)]
theorem rd_same {σ : St} {i : Nat} {x : Option V} (h : i < σ.length) : (σ.set i x)[i]? = some x := List.getElem?_set_self h
theorem rd_ne {σ : St} {i j : Nat} {x : Option V} {y : Option V} (n : i ≠ j) (h : σ[j]? = some y) : (σ.set i x)[j]? = some y := by rw [List.getElem?_set_ne n]; exact h
theorem rd_wipe {σ : St} {j : Nat} {vs : List Nat} {y : Option V} (n : j ∉ vs) (h : σ[j]? = some y) : (wipe σ vs)[j]? = some y := by rw [wipe_out n]; exact h
theorem wipe_wipe {σ : St} {vs : List Nat} : wipe (wipe σ vs) vs = wipe σ vs := wipe_in fun _ h => h
theorem take_two (a b : V) (l : List V) : cutV (a :: b :: l) none (some 2) = [a, b] := cutV_to _ 2
theorem drop_two (a b : V) (l : List V) : cutV (a :: b :: l) (some 2) none = l := cutV_from _ 2
end Pz
local macro_rules | `(tactic| infer_instance) => `(tactic| first
  | assumption
  | ((with_reducible apply Pz.at_same); (assumption); infer_instance)
  | ((with_reducible apply Pz.at_sm); (assumption); (infer_instance); infer_instance)
  | ((with_reducible apply Pz.sqL_at); infer_instance)
  | ((with_reducible apply Pz.sqT_at); infer_instance)
  | ((with_reducible apply Pz.wl_same); (assumption); infer_instance)
  | ((with_reducible apply Pz.wl_sm); (assumption); (infer_instance); infer_instance)
  | (with_reducible exact Same.refl _)
  | ((with_reducible apply Pz.same_step); (assumption); infer_instance)
  | ((with_reducible apply Pz.same_smS); (assumption); (infer_instance); infer_instance)
  | (with_reducible exact Pz.Sm.refl _)
  | ((with_reducible apply Pz.sm_same); (assumption); infer_instance)
  | ((with_reducible apply Pz.sm_sm); (assumption); infer_instance)
  | ((with_reducible apply Pz.sm_new); (assumption); (infer_instance); infer_instance)
  | ((with_reducible apply Pz.ne_new); (assumption); infer_instance)
  | ((with_reducible apply Ne.symm); (with_reducible apply Pz.ne_new); (assumption); infer_instance)
  | ((with_reducible apply Pz.wl_some); infer_instance)
  | ((with_reducible apply Pz.some_ne); infer_instance)
  | ((with_reducible apply Pz.lv_none); (assumption); infer_instance)
  | (with_reducible exact Pz.lv_refl _)
  | ((with_reducible apply Pz.lv_same); (assumption); infer_instance)
  | ((with_reducible apply Pz.lv_sm); (assumption); (infer_instance); infer_instance)
  | ((with_reducible apply Pz.gr_step); (assumption); infer_instance)
  | ((with_reducible apply Pz.gr_well); (assumption); (infer_instance); infer_instance))
local macro_rules | `(tactic| fail) => `(tactic| first
  | with_reducible refine Pz.x_seq ?_
  | with_reducible refine Pz.x_asg ?_
  | ((with_reducible apply Pz.x_var); (iterate 24 (try (first | ((with_reducible refine Pz.rd_ne ?_ ?_); (decide)) | ((with_reducible refine Pz.rd_wipe ?_ ?_); (decide))))); (first | ((with_reducible refine Pz.rd_same ?_); (try simp only [List.length_set, L2.wipe_length]); (exact Nat.le_of_ble_eq_true rfl)) | exact rfl))
  | with_reducible refine Pz.x_c ?_
  | with_reducible refine Pz.x_gname ?_
  | with_reducible refine Pz.x_op ?_
  | with_reducible refine Pz.x_drop ?_
  | with_reducible refine Pz.x_ret ?_
  | with_reducible refine Pz.x_retN ?_
  | with_reducible refine Pz.x_next ?_
  | with_reducible refine Pz.x_ifS ?_
  | with_reducible refine Pz.x_test ?_
  | with_reducible refine Pz.x_b ?_
  | with_reducible refine Pz.x_bl ?_
  | with_reducible refine Pz.x_blV ?_
  | with_reducible refine Pz.x_not ?_
  | with_reducible refine Pz.x_notV ?_
  | with_reducible refine Pz.x_cblist ?_
  | with_reducible refine Pz.x_cb ?_
  | with_reducible refine Pz.x_cons ?_
  | with_reducible refine Pz.x_nil ?_
  | with_reducible refine Pz.x_m1 ?_
  | with_reducible refine Pz.x_str ?_
  | with_reducible refine Pz.x_tup ?_
  | with_reducible refine Pz.x_lst ?_
  | with_reducible refine Pz.x_sl ?_
  | with_reducible refine Pz.x_nopart ?_
  | with_reducible refine Pz.x_part ?_
  | with_reducible refine Pz.x_int ?_
  | with_reducible refine Pz.x_ite ?_
  | with_reducible refine Pz.x_and ?_
  | with_reducible refine Pz.x_or ?_
  | with_reducible refine Pz.x_andV ?_
  | with_reducible refine Pz.x_orV ?_
  | with_reducible refine Pz.x_un ?_
  | with_reducible refine Pz.x_bm ?_
  | with_reducible refine Pz.x_bm0 ?_
  | with_reducible refine Pz.x_il ?_
  | with_reducible refine Pz.x_eqI ?_
  | with_reducible refine Pz.x_eqS ?_
  | with_reducible refine Pz.x_neI ?_
  | with_reducible refine Pz.x_neS ?_
  | with_reducible refine Pz.x_rI0 ?_
  | ((with_reducible apply Pz.x_gtup); (infer_instance); (exact rfl))
  | with_reducible refine Pz.x_gcons ?_
  | with_reducible refine Pz.x_gnil ?_
  | ((with_reducible apply Pz.x_tyL); infer_instance)
  | ((with_reducible apply Pz.x_lenL); infer_instance)
  | ((with_reducible apply Pz.x_lenT); infer_instance)
  | ((with_reducible apply Pz.x_ilist); infer_instance)
  | ((with_reducible apply Pz.x_ixL); (infer_instance); (first | assumption | exact rfl | exact Pz.at0 rfl | exact Pz.at1 rfl | exact Pz.at2 rfl | exact Pz.at_m1))
  | ((with_reducible apply Pz.x_ixT); (infer_instance); (exact rfl))
  | ((with_reducible apply Pz.x_slL); infer_instance)
  | ((with_reducible refine Pz.x_new ?_ ?_); (exact rfl); intro _ _ _ _ _)
  | ((with_reducible refine Pz.x_new0 ?_); intro _ _ _ _ _)
  | with_reducible refine Pz.x_lc ?_
  | with_reducible refine Pz.x_for ?_
  | ((with_reducible refine Pz.x_wipe ?_ ?_); (iterate 8 (try (with_reducible refine (Pz.wipe_set (by decide)).trans ?_))); (exact Pz.wipe_wipe))
  | with_reducible refine Pz.x_ss ?_
  | with_reducible refine Pz.x_ii ?_
  | ((with_reducible apply Pz.x_slS); assumption)
  | with_reducible refine Pz.x_call ?_
  | with_reducible refine Pz.x_meth ?_
  | ((with_reducible apply Pz.x_draw); (infer_instance); (omega); (first | decide | omega); (first | decide | omega))
  | with_reducible refine Pz.x_rng1 ?_
  | ((with_reducible refine Pz.x_rngI ?_ ?_ ?_); (omega); (omega))
  | ((with_reducible refine Pz.x_pow ?_ ?_); (exact ⟨by decide, by decide, by decide⟩))
  | ((with_reducible apply Pz.x_neNil); (infer_instance); (infer_instance))
  | with_reducible refine Pz.x_rU ?_
  | with_reducible refine Pz.x_gsub ?_
  | ((with_reducible apply Pz.x_listof); (infer_instance); intro _ _ _ _ _)
  | with_reducible refine Pz.x_fld ?_
  | ((with_reducible apply Pz.x_fldI); (infer_instance); (assumption); (assumption); (exact rfl))
  | with_reducible refine Pz.x_sfld ?_
  | with_reducible refine Pz.x_prop ?_
  | with_reducible refine Pz.x_par ?_
  | with_reducible refine Pz.x_two ?_
  | with_reducible refine Pz.x_dc ?_
  | with_reducible refine Pz.x_yes ?_
  | with_reducible refine Pz.x_chain ?_
  | with_reducible refine Pz.x_err ?_
  | with_reducible refine Pz.x_dget ?_
  | with_reducible refine Pz.x_dnin ?_
  | with_reducible refine Pz.x_isN ?_
  | with_reducible refine Pz.x_iz3 ?_
  | ((with_reducible apply Pz.x_z3I); (infer_instance); (infer_instance); (infer_instance))
  | ((with_reducible apply Pz.x_dgetS); (infer_instance); (assumption)))

namespace Pz
open PySem L2
open PyProof.Rows (envOfC)
/-! ### movement, _law_told -/
def Disp1 (p : Addr) (x y : V) (H2 : Hp) (Q : VK) : Prop := H2 p = some (.dK []) ∧ ∃ kvs : List (Key × V), [(x, y)] = kvs.map (fun kv => (kV kv.1, kv.2)) ∧ kvs.length ≤ 15 ∧ Q (.ref p) (upd H2 p (.dK (mergeK [] kvs)))
def Disp2 (p : Addr) (x y x' y' : V) (H2 : Hp) (Q : VK) : Prop := H2 p = some (.dK []) ∧ ∃ kvs : List (Key × V), [(x, y), (x', y')] = kvs.map (fun kv => (kV kv.1, kv.2)) ∧ kvs.length ≤ 15 ∧ Q (.ref p) (upd H2 p (.dK (mergeK [] kvs)))
theorem x_dnew {σ : L2.St} {H : Hp} {Q : VK} (h : ∀ p H', H p = none → Same H H' → H' p = some (.dK []) → Q (.ref p) H') : tDNewK σ H Q := fun p hp => h p _ hp (same_upd hp) upd_same
theorem x_disp1 {σ : L2.St} {H : Hp} {Q : VK} {k : TE} {n : Int} {s : Str} (hk : ∀ H' Q, Q (.str s) H' → k σ H' Q) (h : ∀ p H', H p = none → Same H H' → H' p = some (.dK (eSum [(s, n)])) → Q (.ref p) H') : tDisp [(k, tC (V.int n))] σ H Q := fun p hp => by
  show k σ (upd H p (.dK [])) _
  refine hk _ _ ?_
  refine ⟨upd_same, [(Sum.inr s, V.int n)], rfl, (show 1 ≤ 15 by decide), h p _ hp (fun b o e => ?_) upd_same⟩
  rw [upd_ne (ne_of_none e hp), upd_ne (ne_of_none e hp)]; exact e
theorem x_disp2 {σ : L2.St} {H : Hp} {Q : VK} {k k' : TE} {t t' : TE} {n n' : Int} {s s' : Str} (ns : s ≠ s') (hk : ∀ H' Q, Q (.str s) H' → k σ H' Q) (hk' : ∀ H' Q, Q (.str s') H' → k' σ H' Q) (ht : ∀ H' Q, Q (.int n) H' → t σ H' Q) (ht' : ∀ H' Q, Q (.int n') H' → t' σ H' Q)
    (h : ∀ p H', H p = none → Same H H' → H' p = some (.dK (eSum [(s, n), (s', n')])) → Q (.ref p) H') : tDisp [(k, t), (k', t')] σ H Q := fun p hp => by
  show k σ (upd H p (.dK [])) _
  refine hk _ _ (ht _ _ (hk' _ _ (ht' _ _ ?_)))
  have e : mergeK [] [((Sum.inr s : Key), V.int n), (Sum.inr s', V.int n')] = eSum [(s, n), (s', n')] := by
    show putK (putK [] (Sum.inr s) (V.int n)) (Sum.inr s') (V.int n') = _
    have e1 : putK ([] : List (Key × V)) (Sum.inr s) (V.int n) = [(Sum.inr s, V.int n)] := rfl
    rw [e1]
    unfold putK
    have e2 : ([((Sum.inr s : Key), V.int n)].any fun kv => decide (kv.1 = Sum.inr s')) = false := by
      simp only [List.any_cons, List.any_nil, Bool.or_false, decide_eq_false_iff_not]
      exact fun z => ns (Sum.inr.inj z)
    rw [if_neg (by rw [e2]; decide)]
    rfl
  refine ⟨upd_same, [(Sum.inr s, V.int n), (Sum.inr s', V.int n')], rfl, (by show 2 ≤ 15; decide), ?_⟩
  rw [e]
  refine h p _ hp (fun b o e => ?_) upd_same
  rw [upd_ne (ne_of_none e hp), upd_ne (ne_of_none e hp)]; exact e
/-- a kind of payments -/
def mvSums (d h : Str) (once : Bool) : List (List (Str × Int)) := [[], [], [(d, 1)], [(d, 1), (h, 1)]] ++ (if once = true then [] else [[(d, 2), (h, 1)]])
def mvSteps (nm : Str) (once : Bool) : List (Str × Int × Int) := [(("ask" : Str), (0 : Int), (1 : Int)), (nm, 1, 2), (("hear" : Str), 2, 3)] ++ (if once = true then [] else [(("again" : Str), (3 : Int), (4 : Int))])
/-- what is new since H -/
def nw (H H' : Hp) : Hp := fun b => match H b with
  | none => H' b
  | some _ => none
theorem nw_at {H H' : Hp} {p : Addr} {o : HO} (n : H p = none) (h : H' p = some o) : nw H H' p = some o := by unfold nw; rw [n]; exact h
theorem nw_gr {H H' : Hp} : Gr emp H (nw H H') H' := by
  refine ⟨(fun b o e => nomatch e), fun b o e => ?_, fun b e => ?_⟩
  · unfold nw at e
    cases h : H b with
    | none => rw [h] at e; exact e
    | some u => rw [h] at e; cases e
  · unfold nw at e
    cases h : H b with
    | none => exact .inr rfl
    | some u => rw [h] at e; exact absurd rfl e
def spTold : Sp := fun vs H Q _ => ∃ (nm d h : Str) (once : Bool), vs = [.str nm, .str d, .str h, .bl once] ∧ d ≠ h ∧
  ∀ (t st sp : Addr) (H' F' : Hp) (zs : List V), Same H H' → Gr emp H F' H' → F' t = some (.tup [.str nm, .ref st, .ref sp]) → R F' (.list ((mvSums d h once).map dSum)) (.ref st) → F' sp = some (.lst zs) → RA F' ((mvSteps nm once).map dStep) zs → Q (.ref t) H'

section
variable {P : Program} {w : World} {K : PySem.W.Frag} {mg : Str → Option Value} {base : Heap}
theorem ok_movement (TT : Txt2 K mg) : Fn P w K mg base 1 "movement" ["name", "done", "heard", "numbered"] spTold := by
  have T := TT.t
  refine TT.d_movement.fn sc_movement (fun vs H Q E h => ?_) (fun cdv A outer f s H vs Q E hr h => ?_)
  · obtain ⟨_, _, _, _, rfl, _⟩ := h; rfl
  · obtain ⟨nm, d, hd, once, rfl, ndh, q⟩ := h
    refine ⟨_, (pss_cons (ps_set (i := 4) sc_movement.nd rfl (Or.inl rfl) (pe_lst (pa_cons pe_dnewK (pa_cons pe_dnewK (pa_cons (pe_disp (pps_cons (pv 1) pe_int pps_nil) (by rfl) (by rfl) (fun z => by cases z) (by decide)) (pa_cons (pe_disp (pps_cons (pv 1) pe_int (pps_cons (pv 2) pe_int pps_nil)) (by rfl) (by rfl) (fun z => by cases z) (by decide)) pa_nil)))))) (pss_cons (ps_set (i := 5) sc_movement.nd rfl (Or.inl rfl) (pe_lst (pa_cons (pe_tup (pa_cons pe_str (pa_cons pe_int (pa_cons pe_int pa_nil)))) (pa_cons (pe_tup (pa_cons (pv 0) (pa_cons pe_int (pa_cons pe_int pa_nil)))) (pa_cons (pe_tup (pa_cons pe_str (pa_cons pe_int (pa_cons pe_int pa_nil)))) pa_nil))))) (pss_cons (ps_if (pt_val (pv 3)) (pss_one (ps_ret (pe_tup (pa_cons (pv 0) (pa_cons (pv 4) (pa_cons (pv 5) pa_nil)))))) pss_nil) (pss_one (ps_ret (pe_tup (pa_cons (pv 0) (pa_cons (pe_op op_cat (pv 4) (pe_lst (pa_cons (pe_disp (pps_cons (pv 1) pe_int (pps_cons (pv 2) pe_int pps_nil)) (by rfl) (by rfl) (fun z => by cases z) (by decide)) pa_nil))) (pa_cons (pe_op op_cat (pv 5) (pe_lst (pa_cons (pe_tup (pa_cons pe_str (pa_cons pe_int (pa_cons pe_int pa_nil)))) pa_nil))) pa_nil))))))))), ?_⟩
    repeat fail
    refine x_dnew fun p1 H1 n1 s1 v1 => ?_
    repeat fail
    refine x_dnew fun p2 H2 n2 s2 v2 => ?_
    repeat fail
    refine x_disp1 (s := d) (fun H' Q h => ⟨_, rfl, h⟩) fun p3 H3 n3 s3 v3 => ?_
    repeat fail
    refine x_disp2 (s := d) (s' := hd) ndh (fun H' Q h => ⟨_, rfl, h⟩) (fun H' Q h => ⟨_, rfl, h⟩) (fun H' Q h => h) (fun H' Q h => h) fun p4 H4 n4 s4 v4 => ?_
    repeat fail
    rename_i pS H5 nS s5 v5 ta H6 na s6 v6 tb H7 nb s7 v7 tc H8 nc s8 v8 pP H9 nP s9 v9
    have g1 : H9 p1 = some (.dK (eSum [])) := by have : H1 p1 = some (.dK (eSum [])) := v1; infer_instance
    have g2 : H9 p2 = some (.dK (eSum [])) := by have : H2 p2 = some (.dK (eSum [])) := v2; infer_instance
    have g3 : H9 p3 = some (.dK (eSum [(d, 1)])) := by infer_instance
    have g4 : H9 p4 = some (.dK (eSum [(d, 1), (hd, 1)])) := by infer_instance
    have g5 := s9 _ _ (s8 _ _ (s7 _ _ (s6 _ _ v5)))
    have g6 := s9 _ _ (s8 _ _ (s7 _ _ v6))
    have g7 := s9 _ _ (s8 _ _ v7)
    have g8 := s9 _ _ v8
    have z1 := n1
    have z2 := same_none s1 n2
    have z3 := same_none (s1.trans s2) n3
    have z4 := same_none (s1.trans (s2.trans s3)) n4
    have z5 := same_none (s1.trans (s2.trans (s3.trans s4))) nS
    have z6 := same_none (s1.trans (s2.trans (s3.trans (s4.trans s5)))) na
    have z7 := same_none (s1.trans (s2.trans (s3.trans (s4.trans (s5.trans s6))))) nb
    have z8 := same_none (s1.trans (s2.trans (s3.trans (s4.trans (s5.trans (s6.trans s7)))))) nc
    have z9 := same_none (s1.trans (s2.trans (s3.trans (s4.trans (s5.trans (s6.trans (s7.trans s8))))))) nP
    have s09 : Same H H9 := s1.trans (s2.trans (s3.trans (s4.trans (s5.trans (s6.trans (s7.trans (s8.trans s9)))))))
    clear s1 s2 s3 s4 s5 s6 s7 s8 s9 v1 v2 v3 v4 v5 v6 v7 v8 n1 n2 n3 n4 nS na nb nc nP
    cases once with
    | true =>
      refine ite2 (fun _ => ?_) (fun cc => absurd rfl cc)
      repeat fail
      rename_i t H10 nt s10 v10
      have z10 := same_none s09 nt
      refine q t pS pP H10 (nw H H10) _ (s09.trans s10) nw_gr (nw_at z10 v10) (R_list.mpr ⟨pS, _, rfl, nw_at z5 (s10 _ _ g5), ?_⟩) (nw_at z9 (s10 _ _ v9)) ?_
      · show RA (nw H H10) [dSum [], dSum [], dSum [(d, 1)], dSum [(d, 1), (hd, 1)]] _
        simp only [RA]
        exact ⟨_, _, rfl, R_dSum.mpr ⟨p1, rfl, nw_at z1 (s10 _ _ g1)⟩, _, _, rfl, R_dSum.mpr ⟨p2, rfl, nw_at z2 (s10 _ _ g2)⟩, _, _, rfl, R_dSum.mpr ⟨p3, rfl, nw_at z3 (s10 _ _ g3)⟩, _, _, rfl, R_dSum.mpr ⟨p4, rfl, nw_at z4 (s10 _ _ g4)⟩, rfl⟩
      · show RA (nw H H10) [dStep ("ask", 0, 1), dStep (nm, 1, 2), dStep ("hear", 2, 3)] _
        simp only [RA]
        exact ⟨_, _, rfl, R_dStep.mpr ⟨ta, rfl, nw_at z6 (s10 _ _ g6)⟩, _, _, rfl, R_dStep.mpr ⟨tb, rfl, nw_at z7 (s10 _ _ g7)⟩, _, _, rfl, R_dStep.mpr ⟨tc, rfl, nw_at z8 (s10 _ _ g8)⟩, rfl⟩
    | false =>
      refine ite2 (fun cc => absurd cc (by decide)) (fun _ => ?_)
      repeat fail
      refine x_disp2 (s := d) (s' := hd) ndh (fun H' Q h => ⟨_, rfl, h⟩) (fun H' Q h => ⟨_, rfl, h⟩) (fun H' Q h => h) (fun H' Q h => h) fun p5 H10 n5 s10 v10 => ?_
      repeat fail
      rename_i pl H11 nl s11 v11
      have k5 := s11 _ _ (s10 _ _ g5)
      refine x_cat k5 v11 (Nat.le_trans (show 4 + 1 ≤ 30 by decide) (by decide)) fun pc H12 nc s12 v12 => ?_
      repeat fail
      rename_i tt H13 ntt s13 v13 pl2 H14 npl2 s14 v14
      have s1014 := s10.trans (s11.trans (s12.trans (s13.trans s14)))
      refine x_cat (s1014 _ _ v9) v14 (Nat.le_trans (show 3 + 1 ≤ 30 by decide) (by decide)) fun pd H15 npd s15 v15 => ?_
      repeat fail
      rename_i t H16 nt s16 v16
      have s1016 := s1014.trans (s15.trans s16)
      have h5 := s16 _ _ (s15 _ _ (s14 _ _ (s13 _ _ (s12 _ _ (s11 _ _ v10)))))
      have hc := s16 _ _ (s15 _ _ (s14 _ _ (s13 _ _ v12)))
      have ht := s16 _ _ (s15 _ _ (s14 _ _ v13))
      have y5 := same_none s09 n5
      have yc := same_none (s09.trans (s10.trans s11)) nc
      have yt := same_none (s09.trans (s10.trans (s11.trans s12))) ntt
      have yd := same_none (s09.trans s1014) npd
      have y16 := same_none (s09.trans (s1014.trans s15)) nt
      refine q t pc pd H16 (nw H H16) _ (s09.trans s1016) nw_gr (nw_at y16 v16) (R_list.mpr ⟨pc, _, rfl, nw_at yc hc, ?_⟩) (nw_at yd (s16 _ _ v15)) ?_
      · show RA (nw H H16) [dSum [], dSum [], dSum [(d, 1)], dSum [(d, 1), (hd, 1)], dSum [(d, 2), (hd, 1)]] _
        simp only [RA]
        exact ⟨_, _, rfl, R_dSum.mpr ⟨p1, rfl, nw_at z1 (s1016 _ _ g1)⟩, _, _, rfl, R_dSum.mpr ⟨p2, rfl, nw_at z2 (s1016 _ _ g2)⟩, _, _, rfl, R_dSum.mpr ⟨p3, rfl, nw_at z3 (s1016 _ _ g3)⟩, _, _, rfl, R_dSum.mpr ⟨p4, rfl, nw_at z4 (s1016 _ _ g4)⟩, _, _, rfl, R_dSum.mpr ⟨p5, rfl, nw_at y5 h5⟩, rfl⟩
      · show RA (nw H H16) [dStep ("ask", 0, 1), dStep (nm, 1, 2), dStep ("hear", 2, 3), dStep ("again", 3, 4)] _
        simp only [RA]
        exact ⟨_, _, rfl, R_dStep.mpr ⟨ta, rfl, nw_at z6 (s1016 _ _ g6)⟩, _, _, rfl, R_dStep.mpr ⟨tb, rfl, nw_at z7 (s1016 _ _ g7)⟩, _, _, rfl, R_dStep.mpr ⟨tc, rfl, nw_at z8 (s1016 _ _ g8)⟩, _, _, rfl, R_dStep.mpr ⟨tt, rfl, nw_at yt ht⟩, rfl⟩
theorem ok_law_told (TT : Txt2 K mg) : Fn P w K mg base 1 "_law_told" ["label", "done", "known", "once"] spTold := by
  have T := TT.t
  refine TT.d_law_told.fn sc_law_told (fun vs H Q E h => ?_) (fun cdv A outer f s H vs Q E hr h => ?_)
  · obtain ⟨_, _, _, _, rfl, _⟩ := h; rfl
  · obtain ⟨nm, d, hd, once, rfl, ndh, q⟩ := h
    refine ⟨_, (pss_cons (ps_set (i := 4) sc_law_told.nd rfl (Or.inl rfl) (pe_lst (pa_cons pe_dnewK (pa_cons pe_dnewK (pa_cons (pe_disp (pps_cons (pv 1) pe_int pps_nil) (by rfl) (by rfl) (fun z => by cases z) (by decide)) (pa_cons (pe_disp (pps_cons (pv 1) pe_int (pps_cons (pv 2) pe_int pps_nil)) (by rfl) (by rfl) (fun z => by cases z) (by decide)) pa_nil)))))) (pss_cons (ps_set (i := 5) sc_law_told.nd rfl (Or.inl rfl) (pe_lst (pa_cons (pe_tup (pa_cons pe_str (pa_cons pe_int (pa_cons pe_int pa_nil)))) (pa_cons (pe_tup (pa_cons (pv 0) (pa_cons pe_int (pa_cons pe_int pa_nil)))) (pa_cons (pe_tup (pa_cons pe_str (pa_cons pe_int (pa_cons pe_int pa_nil)))) pa_nil))))) (pss_cons (ps_if (pt_val (pv 3)) (pss_one (ps_ret (pe_tup (pa_cons (pv 0) (pa_cons (pv 4) (pa_cons (pv 5) pa_nil)))))) pss_nil) (pss_one (ps_ret (pe_tup (pa_cons (pv 0) (pa_cons (pe_op op_cat (pv 4) (pe_lst (pa_cons (pe_disp (pps_cons (pv 1) pe_int (pps_cons (pv 2) pe_int pps_nil)) (by rfl) (by rfl) (fun z => by cases z) (by decide)) pa_nil))) (pa_cons (pe_op op_cat (pv 5) (pe_lst (pa_cons (pe_tup (pa_cons pe_str (pa_cons pe_int (pa_cons pe_int pa_nil)))) pa_nil))) pa_nil))))))))), ?_⟩
    repeat fail
    refine x_dnew fun p1 H1 n1 s1 v1 => ?_
    repeat fail
    refine x_dnew fun p2 H2 n2 s2 v2 => ?_
    repeat fail
    refine x_disp1 (s := d) (fun H' Q h => ⟨_, rfl, h⟩) fun p3 H3 n3 s3 v3 => ?_
    repeat fail
    refine x_disp2 (s := d) (s' := hd) ndh (fun H' Q h => ⟨_, rfl, h⟩) (fun H' Q h => ⟨_, rfl, h⟩) (fun H' Q h => h) (fun H' Q h => h) fun p4 H4 n4 s4 v4 => ?_
    repeat fail
    rename_i pS H5 nS s5 v5 ta H6 na s6 v6 tb H7 nb s7 v7 tc H8 nc s8 v8 pP H9 nP s9 v9
    have g1 : H9 p1 = some (.dK (eSum [])) := by have : H1 p1 = some (.dK (eSum [])) := v1; infer_instance
    have g2 : H9 p2 = some (.dK (eSum [])) := by have : H2 p2 = some (.dK (eSum [])) := v2; infer_instance
    have g3 : H9 p3 = some (.dK (eSum [(d, 1)])) := by infer_instance
    have g4 : H9 p4 = some (.dK (eSum [(d, 1), (hd, 1)])) := by infer_instance
    have g5 := s9 _ _ (s8 _ _ (s7 _ _ (s6 _ _ v5)))
    have g6 := s9 _ _ (s8 _ _ (s7 _ _ v6))
    have g7 := s9 _ _ (s8 _ _ v7)
    have g8 := s9 _ _ v8
    have z1 := n1
    have z2 := same_none s1 n2
    have z3 := same_none (s1.trans s2) n3
    have z4 := same_none (s1.trans (s2.trans s3)) n4
    have z5 := same_none (s1.trans (s2.trans (s3.trans s4))) nS
    have z6 := same_none (s1.trans (s2.trans (s3.trans (s4.trans s5)))) na
    have z7 := same_none (s1.trans (s2.trans (s3.trans (s4.trans (s5.trans s6))))) nb
    have z8 := same_none (s1.trans (s2.trans (s3.trans (s4.trans (s5.trans (s6.trans s7)))))) nc
    have z9 := same_none (s1.trans (s2.trans (s3.trans (s4.trans (s5.trans (s6.trans (s7.trans s8))))))) nP
    have s09 : Same H H9 := s1.trans (s2.trans (s3.trans (s4.trans (s5.trans (s6.trans (s7.trans (s8.trans s9)))))))
    clear s1 s2 s3 s4 s5 s6 s7 s8 s9 v1 v2 v3 v4 v5 v6 v7 v8 n1 n2 n3 n4 nS na nb nc nP
    cases once with
    | true =>
      refine ite2 (fun _ => ?_) (fun cc => absurd rfl cc)
      repeat fail
      rename_i t H10 nt s10 v10
      have z10 := same_none s09 nt
      refine q t pS pP H10 (nw H H10) _ (s09.trans s10) nw_gr (nw_at z10 v10) (R_list.mpr ⟨pS, _, rfl, nw_at z5 (s10 _ _ g5), ?_⟩) (nw_at z9 (s10 _ _ v9)) ?_
      · show RA (nw H H10) [dSum [], dSum [], dSum [(d, 1)], dSum [(d, 1), (hd, 1)]] _
        simp only [RA]
        exact ⟨_, _, rfl, R_dSum.mpr ⟨p1, rfl, nw_at z1 (s10 _ _ g1)⟩, _, _, rfl, R_dSum.mpr ⟨p2, rfl, nw_at z2 (s10 _ _ g2)⟩, _, _, rfl, R_dSum.mpr ⟨p3, rfl, nw_at z3 (s10 _ _ g3)⟩, _, _, rfl, R_dSum.mpr ⟨p4, rfl, nw_at z4 (s10 _ _ g4)⟩, rfl⟩
      · show RA (nw H H10) [dStep ("ask", 0, 1), dStep (nm, 1, 2), dStep ("hear", 2, 3)] _
        simp only [RA]
        exact ⟨_, _, rfl, R_dStep.mpr ⟨ta, rfl, nw_at z6 (s10 _ _ g6)⟩, _, _, rfl, R_dStep.mpr ⟨tb, rfl, nw_at z7 (s10 _ _ g7)⟩, _, _, rfl, R_dStep.mpr ⟨tc, rfl, nw_at z8 (s10 _ _ g8)⟩, rfl⟩
    | false =>
      refine ite2 (fun cc => absurd cc (by decide)) (fun _ => ?_)
      repeat fail
      refine x_disp2 (s := d) (s' := hd) ndh (fun H' Q h => ⟨_, rfl, h⟩) (fun H' Q h => ⟨_, rfl, h⟩) (fun H' Q h => h) (fun H' Q h => h) fun p5 H10 n5 s10 v10 => ?_
      repeat fail
      rename_i pl H11 nl s11 v11
      have k5 := s11 _ _ (s10 _ _ g5)
      refine x_cat k5 v11 (Nat.le_trans (show 4 + 1 ≤ 30 by decide) (by decide)) fun pc H12 nc s12 v12 => ?_
      repeat fail
      rename_i tt H13 ntt s13 v13 pl2 H14 npl2 s14 v14
      have s1014 := s10.trans (s11.trans (s12.trans (s13.trans s14)))
      refine x_cat (s1014 _ _ v9) v14 (Nat.le_trans (show 3 + 1 ≤ 30 by decide) (by decide)) fun pd H15 npd s15 v15 => ?_
      repeat fail
      rename_i t H16 nt s16 v16
      have s1016 := s1014.trans (s15.trans s16)
      have h5 := s16 _ _ (s15 _ _ (s14 _ _ (s13 _ _ (s12 _ _ (s11 _ _ v10)))))
      have hc := s16 _ _ (s15 _ _ (s14 _ _ (s13 _ _ v12)))
      have ht := s16 _ _ (s15 _ _ (s14 _ _ v13))
      have y5 := same_none s09 n5
      have yc := same_none (s09.trans (s10.trans s11)) nc
      have yt := same_none (s09.trans (s10.trans (s11.trans s12))) ntt
      have yd := same_none (s09.trans s1014) npd
      have y16 := same_none (s09.trans (s1014.trans s15)) nt
      refine q t pc pd H16 (nw H H16) _ (s09.trans s1016) nw_gr (nw_at y16 v16) (R_list.mpr ⟨pc, _, rfl, nw_at yc hc, ?_⟩) (nw_at yd (s16 _ _ v15)) ?_
      · show RA (nw H H16) [dSum [], dSum [], dSum [(d, 1)], dSum [(d, 1), (hd, 1)], dSum [(d, 2), (hd, 1)]] _
        simp only [RA]
        exact ⟨_, _, rfl, R_dSum.mpr ⟨p1, rfl, nw_at z1 (s1016 _ _ g1)⟩, _, _, rfl, R_dSum.mpr ⟨p2, rfl, nw_at z2 (s1016 _ _ g2)⟩, _, _, rfl, R_dSum.mpr ⟨p3, rfl, nw_at z3 (s1016 _ _ g3)⟩, _, _, rfl, R_dSum.mpr ⟨p4, rfl, nw_at z4 (s1016 _ _ g4)⟩, _, _, rfl, R_dSum.mpr ⟨p5, rfl, nw_at y5 h5⟩, rfl⟩
      · show RA (nw H H16) [dStep ("ask", 0, 1), dStep (nm, 1, 2), dStep ("hear", 2, 3), dStep ("again", 3, 4)] _
        simp only [RA]
        exact ⟨_, _, rfl, R_dStep.mpr ⟨ta, rfl, nw_at z6 (s1016 _ _ g6)⟩, _, _, rfl, R_dStep.mpr ⟨tb, rfl, nw_at z7 (s1016 _ _ g7)⟩, _, _, rfl, R_dStep.mpr ⟨tc, rfl, nw_at z8 (s1016 _ _ g8)⟩, _, _, rfl, R_dStep.mpr ⟨tt, rfl, nw_at yt ht⟩, rfl⟩
end
end Pz
namespace Pz
open PySem L2
open PyProof.Rows (envOfC)
/-! ### _law_due -/
def payCols : List Str := ["held", "taken", "given", "booked", "back"]
def mkK (nm : Str) (sums : List (List (Str × Int))) (steps : List (Str × Int × Int)) : KD := { name := nm, rows := sums.map fun tb => payCols.map (look tb), sums := sums, steps := steps }
def holdSums : List (List (Str × Int)) := [[], [], [("held", 1)]]
def holdSteps : List (Str × Int × Int) := [(("ask" : Str), (0 : Int), (1 : Int)), (("hold" : Str), 1, 2)]
def payKds (once : Bool) : List KD := [mkK "hold" holdSums holdSteps, mkK "take" (mvSums "taken" "booked" once) (mvSteps "take" once), mkK "give" (mvSums "given" "back" once) (mvSteps "give" once)]
def payChs (guarded : Bool) : List (List (Str × Int)) := if guarded = true then [[(("held" : Str), (1 : Int)), (("taken" : Str), -1)], [(("taken" : Str), 1), (("given" : Str), -1)]] else []
/-- what the class is given -/
structure PayIn (H : Hp) (hc hk hh : Addr) (once guarded : Bool) (xs : List V) : Prop where
  c_ : H hc = some (.lst (payCols.map V.str))
  k_ : H hk = some (.lst xs)
  ks : HKs H H (payKds once) xs
  h_ : R H (.list ((payChs guarded).map dSum)) (.ref hh)
theorem PayIn.mono {H H' : Hp} {hc hk hh : Addr} {once guarded : Bool} {xs : List V} (h : PayIn H hc hk hh once guarded xs) (s : Same H H') : PayIn H' hc hk hh once guarded xs := ⟨s _ _ h.c_, s _ _ h.k_, h.ks.mono s s, R.mono s _ _ h.h_⟩
def spLDue39 : Sp := fun vs H Q _ => ∃ (once guarded : Bool), vs = [.bl once, .bl guarded] ∧
  ∀ (th hc hk hh : Addr) (H' : Hp) (xs : List V), Same H H' → H' th = some (.tup [.ref hc, .ref hk, .ref hh]) → PayIn H' hc hk hh once guarded xs → Q (.ref th) H'
theorem hk_of {H : Hp} {t st sp : Addr} {nm : Str} {sums : List (List (Str × Int))} {steps : List (Str × Int × Int)} {zs : List V} (ht : H t = some (.tup [.str nm, .ref st, .ref sp])) (hs : R H (.list (sums.map dSum)) (.ref st)) (hp : H sp = some (.lst zs)) (hz : RA H (steps.map dStep) zs) : HK H H (mkK nm sums steps) (.ref t) :=
  ⟨t, st, sp, zs, rfl, ht, hs, hp, hz⟩
theorem hks3 {H : Hp} {a b c : KD} {x y z : V} (h1 : HK H H a x) (h2 : HK H H b y) (h3 : HK H H c z) : HKs H H [a, b, c] [x, y, z] := by
  refine ⟨rfl, fun i k v e1 e2 => ?_⟩
  match i, e1, e2 with
  | 0, e1, e2 => cases e1; cases e2; exact h1
  | 1, e1, e2 => cases e1; cases e2; exact h2
  | 2, e1, e2 => cases e1; cases e2; exact h3
  | n + 3, e1, _ => simp at e1

section
variable {P : Program} {w : World} {K : PySem.W.Frag} {mg : Str → Option Value} {base : Heap}
theorem ok_law_due (TT : Txt2 K mg) : Fn P w K mg base 2 "_law_due" ["once", "guarded"] spLDue39 := by
  have T := TT.t
  have G_law_told := ok_law_told (P := P) (w := w) (base := base) TT
  refine TT.d_law_due.fn sc_law_due (fun vs H Q E h => ?_) (fun cdv A outer f s H vs Q E hr h => ?_)
  · obtain ⟨_, _, rfl, _⟩ := h; rfl
  · obtain ⟨once, guarded, rfl, q⟩ := h
    refine ⟨_, (pss_cons (ps_set (i := 2) sc_law_due.nd rfl (Or.inl rfl) (pe_lst (pa_cons pe_str (pa_cons pe_str (pa_cons pe_str (pa_cons pe_str (pa_cons pe_str pa_nil))))))) (pss_cons (ps_set (i := 3) sc_law_due.nd rfl (Or.inl rfl) (pe_lst (pa_cons (pe_tup (pa_cons pe_str (pa_cons (pe_lst (pa_cons pe_dnewK (pa_cons pe_dnewK (pa_cons (pe_disp (pps_cons pe_str pe_int pps_nil) (by rfl) (by rfl) (fun z => by cases z) (by decide)) pa_nil)))) (pa_cons (pe_lst (pa_cons (pe_tup (pa_cons pe_str (pa_cons pe_int (pa_cons pe_int pa_nil)))) (pa_cons (pe_tup (pa_cons pe_str (pa_cons pe_int (pa_cons pe_int pa_nil)))) pa_nil))) pa_nil)))) pa_nil))) (pss_cons (ps_expr (pe_bm PySem.F.plainAttrs_list PySem.F.slot_list_append PySem.F.type_list_append mt_append (pv 3) (pa_cons (pe_fn G_law_told (hr.mono (by decide)) (by rfl) (pa_cons pe_str (pa_cons pe_str (pa_cons pe_str (pa_cons (pv 0) pa_nil))))) pa_nil))) (pss_cons (ps_expr (pe_bm PySem.F.plainAttrs_list PySem.F.slot_list_append PySem.F.type_list_append mt_append (pv 3) (pa_cons (pe_fn G_law_told (hr.mono (by decide)) (by rfl) (pa_cons pe_str (pa_cons pe_str (pa_cons pe_str (pa_cons (pv 0) pa_nil))))) pa_nil))) (pss_cons (ps_set (i := 4) sc_law_due.nd rfl (Or.inl rfl) (pe_lst (pa_cons (pe_disp (pps_cons pe_str pe_int (pps_cons pe_str (pe_op op_sub pe_int pe_int) pps_nil)) (by rfl) (by rfl) (fun z => by cases z) (by decide)) (pa_cons (pe_disp (pps_cons pe_str pe_int (pps_cons pe_str (pe_op op_sub pe_int pe_int) pps_nil)) (by rfl) (by rfl) (fun z => by cases z) (by decide)) pa_nil)))) (pss_one (ps_ret (pe_tup (pa_cons (pv 2) (pa_cons (pv 3) (pa_cons (pe_slice sl_list (pv 4) po_none (po_some (pe_op op_mul pe_int (pe_callTy call_int1 (by rfl) T.z_int (by decide +kernel) (pa_cons (pv 1) pa_nil))))) pa_nil))))))))))), ?_⟩
    repeat fail
    rename_i hc H1 nhc s1 v1
    refine x_dnew fun p1 H2 n2 s2 v2 => ?_
    repeat fail
    refine x_dnew fun p2 H3 n3 s3 v3 => ?_
    repeat fail
    refine x_disp1 (s := "held") (fun H' Q h => h) fun p3 H4 n4 s4 v4 => ?_
    repeat fail
    rename_i st H5 nst s5 v5 ta H6 nta s6 v6 tb H7 ntb s7 v7 sp H8 nsp s8 v8 t H9 nt s9 v9 hk H10 nhk s10 v10
    have g1 : H9 p1 = some (.dK (eSum [])) := by have : H2 p1 = some (.dK (eSum [])) := v2; infer_instance
    have g2 : H9 p2 = some (.dK (eSum [])) := by have : H3 p2 = some (.dK (eSum [])) := v3; infer_instance
    have g3 : H9 p3 = some (.dK (eSum [("held", 1)])) := by infer_instance
    have gst := s9 _ _ (s8 _ _ (s7 _ _ (s6 _ _ v5)))
    have gta := s9 _ _ (s8 _ _ (s7 _ _ v6))
    have gtb := s9 _ _ (s8 _ _ v7)
    have gsp := s9 _ _ v8
    have hold : HK H9 H9 (mkK "hold" holdSums holdSteps) (.ref t) := by
      refine hk_of v9 (R_list.mpr ⟨st, _, rfl, gst, ?_⟩) gsp ?_
      · show RA H9 [dSum [], dSum [], dSum [("held", 1)]] _
        simp only [RA]
        exact ⟨_, _, rfl, R_dSum.mpr ⟨p1, rfl, g1⟩, _, _, rfl, R_dSum.mpr ⟨p2, rfl, g2⟩, _, _, rfl, R_dSum.mpr ⟨p3, rfl, g3⟩, rfl⟩
      · show RA H9 [dStep ("ask", 0, 1), dStep ("hold", 1, 2)] _
        simp only [RA]
        exact ⟨_, _, rfl, R_dStep.mpr ⟨ta, rfl, gta⟩, _, _, rfl, R_dStep.mpr ⟨tb, rfl, gtb⟩, rfl⟩
    have s09 : Same H1 H9 := s2.trans (s3.trans (s4.trans (s5.trans (s6.trans (s7.trans (s8.trans s9))))))
    have c9 := s09 _ _ v1
    have sH9 := s1.trans s09
    clear s2 s3 s4 s5 s6 s7 s8 s9 v2 v3 v4 v5 v6 v7 v8 v9 n2 n3 n4 nst nta ntb nsp nt g1 g2 g3 gst gta gtb gsp v1 s09 s1
    refine ⟨"take", "taken", "booked", once, rfl, (by decide +kernel), fun t2 st2 sp2 H11 F11 zs2 s11 g11 a1 a2 a3 a4 => ?_⟩
    have take : HK F11 F11 (mkK "take" (mvSums "taken" "booked" once) (mvSteps "take" once)) (.ref t2) := hk_of a1 a2 a3 a4
    have v11 := s11 _ _ v10
    repeat fail
    refine x_append v11 (show 1 ≤ 1000 by decide) fun H12 s12 v12 => ?_
    have k11 : ∀ b, F11 b ≠ none → b ≠ hk := fun b hb z => by
      have := (g11.new b hb).elim (fun y => absurd rfl y) id
      rw [z, v10] at this; cases this
    have F12 : Same F11 H12 := fun b o e => s12 b o (k11 b (by rw [e]; exact fun y => nomatch y)) (g11.sub b o e)
    have s912 : Same H9 H12 := fun b o e => s12 b o (fun z => by rw [z, nhk] at e; cases e) (s11 _ _ (s10 _ _ e))
    clear v11 s12 a1 a2 a3 a4 v10 s11 s10
    repeat fail
    refine ⟨"give", "given", "back", once, rfl, (by decide +kernel), fun t3 st3 sp3 H13 F13 zs3 s13 g13 a1 a2 a3 a4 => ?_⟩
    have give : HK F13 F13 (mkK "give" (mvSums "given" "back" once) (mvSteps "give" once)) (.ref t3) := hk_of a1 a2 a3 a4
    have v13 := s13 _ _ v12
    repeat fail
    refine x_append v13 (show 2 ≤ 1000 by decide) fun H14 s14 v14 => ?_
    have k13 : ∀ b, F13 b ≠ none → b ≠ hk := fun b hb z => by
      have := (g13.new b hb).elim (fun y => absurd rfl y) id
      rw [z, v12] at this; cases this
    have F14 : Same F13 H14 := fun b o e => s14 b o (k13 b (by rw [e]; exact fun y => nomatch y)) (g13.sub b o e)
    have F14' : Same F11 H14 := fun b o e => s14 b o (k11 b (by rw [e]; exact fun y => nomatch y)) (s13 _ _ (F12 _ _ e))
    have s914 : Same H9 H14 := fun b o e => s14 b o (fun z => by rw [z, nhk] at e; cases e) (s13 _ _ (s912 _ _ e))
    have ks : HKs H14 H14 (payKds once) ([V.ref t] ++ [V.ref t2] ++ [V.ref t3]) := hks3 (hold.mono s914 s914) (take.mono F14' F14') (give.mono F14 F14)
    have c14 := s914 _ _ c9
    have sH14 := sH9.trans s914
    clear v13 s14 a1 a2 a3 a4 v12 s13 F12 s912 F14 F14' k11 k13 hold take give g11 g13 c9 s914 sH9
    repeat fail
    refine x_disp2 (s := "held") (s' := "taken") (n := 1) (n' := 0 - 1) (by decide +kernel) (fun H' Q h => h) (fun H' Q h => h) (fun H' Q h => h) (fun H' Q h => ⟨0, 1, rfl, rfl, h⟩) fun p4 H15 n15 s15 v15 => ?_
    repeat fail
    refine x_disp2 (s := "taken") (s' := "given") (n := 1) (n' := 0 - 1) (by decide +kernel) (fun H' Q h => h) (fun H' Q h => h) (fun H' Q h => h) (fun H' Q h => ⟨0, 1, rfl, rfl, h⟩) fun p5 H16 n16 s16 v16 => ?_
    repeat fail
    rename_i ch H17 n17 s17 v17
    have s1417 := s15.trans (s16.trans s17)
    have v14' := s1417 _ _ v14
    have c17 := s1417 _ _ c14
    repeat fail
    refine .inr ⟨guarded, rfl, ?_⟩
    have fin : ∀ (n : Nat) (hh : Addr) (H18 : Hp), H17 hh = none → Same H17 H18 → H18 hh = some (.lst (([V.ref p4, V.ref p5]).take n)) → (([[(("held" : Str), (1 : Int)), (("taken" : Str), -1)], [(("taken" : Str), 1), (("given" : Str), -1)]]) : List (List (Str × Int))).take n = payChs guarded → ∀ th H19, Same H18 H19 → H19 th = some (.tup [.ref hc, .ref hk, .ref hh]) → Q (.ref th) H19 := by
      intro n hh H18 nhh s18 v18 en th H19 s19 v19
      have s1719 := s18.trans s19
      refine q th hc hk hh H19 _ (sH14.trans (s1417.trans s1719)) v19 ⟨s1719 _ _ c17, s1719 _ _ v14', ks.mono (s1417.trans s1719) (s1417.trans s1719), ?_⟩
      have all : RA H19 [dSum [(("held" : Str), (1 : Int)), (("taken" : Str), -1)], dSum [(("taken" : Str), (1 : Int)), (("given" : Str), -1)]] [V.ref p4, V.ref p5] := by
        simp only [RA]
        exact ⟨_, _, rfl, R_dSum.mpr ⟨p4, rfl, s1719 _ _ (s17 _ _ (s16 _ _ v15))⟩, _, _, rfl, R_dSum.mpr ⟨p5, rfl, s1719 _ _ (s17 _ _ v16)⟩, rfl⟩
      rw [← en]
      refine R_list.mpr ⟨hh, _, rfl, s19 _ _ v18, ?_⟩
      match n with
      | 0 => simp [RA]
      | 1 =>
        obtain ⟨a, b, e, r1, r2⟩ := all
        cases e
        exact ⟨_, _, rfl, r1, rfl⟩
      | n + 2 => simpa using all
    cases guarded with
    | true =>
      refine ⟨_, _, rfl, rfl, .inr ⟨by decide, by decide⟩, _, rfl, ?_⟩
      repeat fail
      intro hh H18 nhh s18 v18
      have ec : cutV [V.ref p4, V.ref p5] none (some (2 * if true = true then 1 else 0)) = [V.ref p4, V.ref p5].take 2 := cutV_to _ 2
      rw [ec] at v18
      repeat fail
      rename_i th H19 nth s19 v19
      exact fin 2 hh H18 nhh s18 v18 rfl th H19 s19 v19
    | false =>
      refine ⟨_, _, rfl, rfl, .inr ⟨by decide, by decide⟩, _, rfl, ?_⟩
      repeat fail
      intro hh H18 nhh s18 v18
      have ec : cutV [V.ref p4, V.ref p5] none (some (2 * if false = true then 1 else 0)) = [V.ref p4, V.ref p5].take 0 := cutV_to _ 0
      rw [ec] at v18
      repeat fail
      rename_i th H19 nth s19 v19
      exact fin 0 hh H18 nhh s18 v18 rfl th H19 s19 v19
end
end Pz
namespace Pz
open PySem L2
open PyProof.Rows (envOfC)
/-! ### payments -/
def payRows (g : Bool) : List (List Int) := (payChs g).map fun tb => payCols.map (look tb)
def spPay (C : Addr) : Sp := fun vs H Q _ => ∃ (once guarded : Bool), vs = [.bl once, .bl guarded] ∧ ∀ (p : Addr) (H' : Hp), H p = none → Same H H' → PlanAt C H' p payCols (payKds once) (payRows guarded) → Q (.ref p) H'
theorem pay_good (once guarded : Bool) : GoodP payCols (payKds once) (payChs guarded) := by
  have kk : ∀ k ∈ payKds once, GoodK payCols k := by
    intro k hk
    simp only [payKds, List.mem_cons, List.not_mem_nil, or_false] at hk
    rcases hk with rfl | rfl | rfl
    · exact ⟨by decide +kernel, by decide +kernel, by decide +kernel, by unfold GoodS; decide +kernel, rfl, by decide +kernel, by decide +kernel, by decide +kernel, by decide +kernel⟩
    · cases once <;> exact ⟨by decide +kernel, by decide +kernel, by decide +kernel, by unfold GoodS; decide +kernel, rfl, by decide +kernel, by decide +kernel, by decide +kernel, by decide +kernel⟩
    · cases once <;> exact ⟨by decide +kernel, by decide +kernel, by decide +kernel, by unfold GoodS; decide +kernel, rfl, by decide +kernel, by decide +kernel, by decide +kernel, by decide +kernel⟩
  refine ⟨⟨by decide +kernel, by decide +kernel, by decide +kernel⟩, kk, by cases once <;> decide +kernel, by cases once <;> decide +kernel, by unfold GoodS; cases guarded <;> decide +kernel, by cases guarded <;> decide +kernel⟩

section
variable {P : Program} {w : World} {K : PySem.W.Frag} {mg : Str → Option Value} {base : Heap} {C f : Addr} {fd : FuncData}
theorem ok_payments (TT : Txt2 K mg) (L : PlanT K mg C) (hm : mg "payments" = some (.ref f)) (D : FunPay K f fd) : FnPay P w K mg base 7 (spPay C) := by
  have T := TT.t
  have G_movement := ok_movement (P := P) (w := w) (base := base) TT
  have G_Planinit := ok_Plan_init (P := P) (w := w) (base := base) T L
  refine ⟨f, fd, hm, D, FunD.ok (CX := CX0) D sc_payments (fun vs H Q E h => ?_) (fun cdv A outer s H vs Q E hr h => ?_)⟩
  · obtain ⟨_, _, rfl, _⟩ := h; rfl
  · obtain ⟨once, guarded, rfl, q⟩ := h
    refine ⟨_, (pss_cons (ps_set (i := 2) sc_payments.nd rfl (Or.inl rfl) (pe_tup (pa_cons pe_str (pa_cons (pe_lst (pa_cons pe_dnewK (pa_cons pe_dnewK (pa_cons (pe_disp (pps_cons pe_str pe_int pps_nil) (by rfl) (by rfl) (fun z => by cases z) (by decide)) pa_nil)))) (pa_cons (pe_lst (pa_cons (pe_tup (pa_cons pe_str (pa_cons pe_int (pa_cons pe_int pa_nil)))) (pa_cons (pe_tup (pa_cons pe_str (pa_cons pe_int (pa_cons pe_int pa_nil)))) pa_nil))) pa_nil))))) (C8.pss_cut (ps_set (i := 3) sc_payments.nd rfl (Or.inl rfl) (pe_ifExp (pt_val (pv 1)) (pe_lst (pa_cons (pe_disp (pps_cons pe_str pe_int (pps_cons pe_str (pe_un un_neg pe_int) pps_nil)) (by rfl) (by rfl) (fun z => by cases z) (by decide)) (pa_cons (pe_disp (pps_cons pe_str pe_int (pps_cons pe_str (pe_un un_neg pe_int) pps_nil)) (by rfl) (by rfl) (fun z => by cases z) (by decide)) pa_nil))) (pe_lst pa_nil))) (pss_one (ps_ret (pe_mk G_Planinit (hr.mono (by decide)) (by rfl) (pa_cons (pe_lst (pa_cons pe_str (pa_cons pe_str (pa_cons pe_str (pa_cons pe_str (pa_cons pe_str pa_nil)))))) (pa_cons (pe_lst (pa_cons (pv 2) (pa_cons (pe_fn G_movement (hr.mono (by decide)) (by rfl) (pa_cons pe_str (pa_cons pe_str (pa_cons pe_str (pa_cons (pv 0) pa_nil))))) (pa_cons (pe_fn G_movement (hr.mono (by decide)) (by rfl) (pa_cons pe_str (pa_cons pe_str (pa_cons pe_str (pa_cons (pv 0) pa_nil))))) pa_nil)))) (pa_cons (pv 3) pa_nil)))))))), ?_⟩
    repeat fail
    refine x_dnew fun p1 H2 n2 s2 v2 => ?_
    repeat fail
    refine x_dnew fun p2 H3 n3 s3 v3 => ?_
    repeat fail
    refine x_disp1 (s := "held") (fun H' Q h => h) fun p3 H4 n4 s4 v4 => ?_
    repeat fail
    rename_i st H5 nst s5 v5 ta H6 nta s6 v6 tb H7 ntb s7 v7 sp H8 nsp s8 v8 t H9 nt s9 v9
    have g1 : H9 p1 = some (.dK (eSum [])) := by have : H2 p1 = some (.dK (eSum [])) := v2; infer_instance
    have g2 : H9 p2 = some (.dK (eSum [])) := by have : H3 p2 = some (.dK (eSum [])) := v3; infer_instance
    have g3 : H9 p3 = some (.dK (eSum [("held", 1)])) := by infer_instance
    have gst := s9 _ _ (s8 _ _ (s7 _ _ (s6 _ _ v5)))
    have gta := s9 _ _ (s8 _ _ (s7 _ _ v6))
    have gtb := s9 _ _ (s8 _ _ v7)
    have gsp := s9 _ _ v8
    have hold : HK H9 H9 (mkK "hold" holdSums holdSteps) (.ref t) := by
      refine hk_of v9 (R_list.mpr ⟨st, _, rfl, gst, ?_⟩) gsp ?_
      · show RA H9 [dSum [], dSum [], dSum [("held", 1)]] _
        simp only [RA]
        exact ⟨_, _, rfl, R_dSum.mpr ⟨p1, rfl, g1⟩, _, _, rfl, R_dSum.mpr ⟨p2, rfl, g2⟩, _, _, rfl, R_dSum.mpr ⟨p3, rfl, g3⟩, rfl⟩
      · show RA H9 [dStep ("ask", 0, 1), dStep ("hold", 1, 2)] _
        simp only [RA]
        exact ⟨_, _, rfl, R_dStep.mpr ⟨ta, rfl, gta⟩, _, _, rfl, R_dStep.mpr ⟨tb, rfl, gtb⟩, rfl⟩
    have sH9 : Same H H9 := s2.trans (s3.trans (s4.trans (s5.trans (s6.trans (s7.trans (s8.trans s9))))))
    clear s2 s3 s4 s5 s6 s7 s8 s9 v2 v3 v4 v5 v6 v7 v8 v9 n2 n3 n4 nst nta ntb nsp nt g1 g2 g3 gst gta gtb gsp
    refine x_cut (fun σ' H' => ∃ hh : Addr, σ' = [some (.bl once), some (.bl guarded), some (.ref t), some (.ref hh)] ∧ Same H9 H' ∧ R H' (.list ((payChs guarded).map dSum)) (.ref hh)) ?_ ?_
    · repeat fail
      cases guarded with
      | true =>
        refine ite2 (fun _ => ?_) (fun cc => absurd rfl cc)
        repeat fail
        refine x_disp2 (s := "held") (s' := "taken") (n := 1) (n' := -1) (by decide +kernel) (fun H' Q h => h) (fun H' Q h => h) (fun H' Q h => h) (fun H' Q h => ⟨1, rfl, h⟩) fun p4 H10 n10 s10 v10 => ?_
        repeat fail
        refine x_disp2 (s := "taken") (s' := "given") (n := 1) (n' := -1) (by decide +kernel) (fun H' Q h => h) (fun H' Q h => h) (fun H' Q h => h) (fun H' Q h => ⟨1, rfl, h⟩) fun p5 H11 n11 s11 v11 => ?_
        repeat fail
        rename_i hh H12 n12 s12 v12
        refine ⟨hh, rfl, s10.trans (s11.trans s12), R_list.mpr ⟨hh, _, rfl, v12, ?_⟩⟩
        show RA H12 [dSum [(("held" : Str), (1 : Int)), (("taken" : Str), -1)], dSum [(("taken" : Str), (1 : Int)), (("given" : Str), -1)]] [V.ref p4, V.ref p5]
        simp only [RA]
        exact ⟨_, _, rfl, R_dSum.mpr ⟨p4, rfl, s12 _ _ (s11 _ _ v10)⟩, _, _, rfl, R_dSum.mpr ⟨p5, rfl, s12 _ _ v11⟩, rfl⟩
      | false =>
        refine ite2 (fun cc => absurd cc (by decide)) (fun _ => ?_)
        repeat fail
        rename_i hh H10 n10 s10 v10
        exact ⟨hh, rfl, s10, R_list.mpr ⟨hh, _, rfl, v10, by simp [payChs, RA]⟩⟩
    rintro σ' H10 ⟨hh, rfl, s10, r10⟩
    repeat fail
    refine ⟨(show 5 ≤ sizeLine by decide), fun hc nhc => ?_⟩
    have s11 := same_upd (o := .lst [V.str "held", V.str "taken", V.str "given", V.str "booked", V.str "back"]) nhc
    have v11 : (upd H10 hc (.lst [V.str "held", V.str "taken", V.str "given", V.str "booked", V.str "back"])) hc = some (.lst (payCols.map V.str)) := upd_same
    show tCons _ _ _ (upd H10 hc (.lst [V.str "held", V.str "taken", V.str "given", V.str "booked", V.str "back"])) _
    generalize upd H10 hc (.lst [V.str "held", V.str "taken", V.str "given", V.str "booked", V.str "back"]) = H11 at *
    repeat fail
    refine ⟨"take", "taken", "booked", once, rfl, (by decide +kernel), fun t2 st2 sp2 H12 F12 zs2 s12 g12 a1 a2 a3 a4 => ?_⟩
    have take : HK F12 F12 (mkK "take" (mvSums "taken" "booked" once) (mvSteps "take" once)) (.ref t2) := hk_of a1 a2 a3 a4
    repeat fail
    refine ⟨"give", "given", "back", once, rfl, (by decide +kernel), fun t3 st3 sp3 H13 F13 zs3 s13 g13 b1 b2 b3 b4 => ?_⟩
    have give : HK F13 F13 (mkK "give" (mvSums "given" "back" once) (mvSteps "give" once)) (.ref t3) := hk_of b1 b2 b3 b4
    repeat fail
    rename_i hk H14 nhk s14 v14
    intro x dx nx ndx nn
    have s1014 := s11.trans (s12.trans (s13.trans s14))
    have s914 : Same H9 H14 := s10.trans s1014
    have F12s : Same F12 H14 := g12.sub.trans (s13.trans s14)
    have F13s : Same F13 H14 := g13.sub.trans s14
    have ks : HKs H14 H14 (payKds once) [V.ref t, V.ref t2, V.ref t3] := hks3 (hold.mono s914 s914) (take.mono F12s F12s) (give.mono F13s F13s)
    exact ⟨H14, x, dx, hc, hk, hh, payCols, payKds once, payChs guarded, H14, _, rfl, rfl, nx, ndx, nn, s14 _ _ (s13 _ _ (s12 _ _ v11)), v14, ks, R.mono s1014 _ _ r10, Same.refl _, pay_good once guarded, fun H' F' s' g' PA => ⟨rfl, q x H' (same_none (sH9.trans s914) nx) ((sH9.trans s914).trans s') (PA.mono g'.sub)⟩⟩
end
end Pz
namespace Pz
open PySem L2
open PyProof.Rows (envOfC)
/-! ### _law_made -/
def spMade (C : Addr) : Sp := fun vs H Q _ => ∃ (once guarded : Bool) (way : Int), vs = [.bl once, .bl guarded, .int way] ∧ ∀ (p : Addr) (H' : Hp), H p = none → Same H H' → PlanAt C H' p payCols (payKds once) (payRows guarded) → Q (.ref p) H'
theorem x_mod {g : Int → Int → V} {i j : Int} {H : Hp} {Q : VK} (h : 0 < j) (q : Q (g i j) H) : rI (fun _ j => 0 < j) g (.int i) (.int j) H Q := ⟨i, j, rfl, rfl, h, q⟩

section
variable {P : Program} {w : World} {K : PySem.W.Frag} {mg : Str → Option Value} {base : Heap} {C f : Addr} {fd : FuncData}
theorem ok_law_made (TT : Txt2 K mg) (L : PlanT K mg C) (hm : mg "payments" = some (.ref f)) (D : FunPay K f fd) : Fn P w K mg base 8 "_law_made" ["once", "guarded", "way"] (spMade C) := by
  have T := TT.t
  have G_payments := ok_payments (P := P) (w := w) (base := base) TT L hm D
  refine TT.d_law_made.fn sc_law_made (fun vs H Q E h => ?_) (fun cdv A outer s f H vs Q E hr h => ?_)
  · obtain ⟨_, _, _, rfl, _⟩ := h; rfl
  · obtain ⟨once, guarded, way, rfl, q⟩ := h
    refine ⟨_, (pss_cons (ps_if (PW.pt (pw_and (pt_val (pv 0)) (pw_and (pt_val (pv 1)) (pw_and1 (pt_cmpR op_eq (pe_op op_mod (pv 2) pe_int) pe_int (nomark _)))))) (pss_one (ps_ret (pe_payments_none G_payments (hr.mono (by decide)) (by rfl)))) pss_nil) (pss_cons (ps_if (PW.pt (pw_and (pt_val (pv 0)) (pw_and1 (pt_cmpR op_lt (pe_op op_mod (pv 2) pe_int) pe_int (nomark _))))) (pss_one (ps_ret (pe_payments_checked G_payments (hr.mono (by decide)) (by rfl) (pk_cons (pv 1) pk_nil)))) pss_nil) (pss_cons (ps_if (PW.pt (pw_and (pt_val (pv 1)) (pw_and1 (pt_cmpR op_lt (pe_op op_mod (pv 2) pe_int) pe_int (nomark _))))) (pss_one (ps_ret (pe_payments_numbered G_payments (hr.mono (by decide)) (by rfl) (pk_cons (pv 0) pk_nil)))) pss_nil) (pss_cons (ps_if (pt_cmpR op_lt (pv 2) pe_int (nomark _)) (pss_one (ps_ret (pe_payments_numbered_checked G_payments (hr.mono (by decide)) (by rfl) (pk_cons (pv 0) (pk_cons (pv 1) pk_nil))))) pss_nil) (pss_one (ps_ret (pe_payments_checked_numbered G_payments (hr.mono (by decide)) (by rfl) (pk_cons (pv 1) (pk_cons (pv 0) pk_nil))))))))), ?_⟩
    cases once <;> cases guarded
    all_goals
      repeat' (first
        | exact absurd ‹false = true› (by decide)
        | exact absurd rfl ‹¬ true = true›
        | exact ⟨_, _, rfl, q⟩
        | exact ⟨_, rfl, rfl, _, _, rfl, q⟩
        | exact ⟨_, rfl, _, rfl, rfl, _, _, rfl, q⟩
        | fail
        | refine x_mod (by decide) ?_
        | refine ite2 (fun _ => ?_) (fun _ => ?_))
end
end Pz
namespace Pz
open PySem L2
open PyProof.Rows (envOfC)
/-! ### _law_shown -/
def dPay (once guarded : Bool) : PyData := .tuple [dStrs payCols, .list ((payKds once).map dKind), dRows (payRows guarded)]
theorem R_tup3 {F : Hp} {x y z : PyData} {v : V} : R F (.tuple [x, y, z]) v ↔ ∃ t a b c, v = .ref t ∧ F t = some (.tup [a, b, c]) ∧ R F x a ∧ R F y b ∧ R F z c := by
  simp only [R, RA]
  constructor
  · rintro ⟨t, xs, rfl, h, a, r, rfl, h1, b, r2, rfl, h2, c, r3, rfl, h3, rfl⟩
    exact ⟨t, a, b, c, rfl, h, h1, h2, h3⟩
  · rintro ⟨t, a, b, c, rfl, h, h1, h2, h3⟩
    exact ⟨t, _, rfl, h, a, _, rfl, h1, b, _, rfl, h2, c, _, rfl, h3, rfl⟩
theorem pay_bd (once guarded : Bool) : BD payCols (payKds once) (payRows guarded) := by
  have kk : ∀ k ∈ payKds once, BK k := by
    intro k hk
    simp only [payKds, List.mem_cons, List.not_mem_nil, or_false] at hk
    rcases hk with rfl | rfl | rfl
    · exact ⟨by decide +kernel, by decide +kernel, by unfold RowOk NumOk; decide +kernel, by decide +kernel, by unfold NumOk; decide +kernel⟩
    · cases once <;> exact ⟨by decide +kernel, by decide +kernel, by unfold RowOk NumOk; decide +kernel, by decide +kernel, by unfold NumOk; decide +kernel⟩
    · cases once <;> exact ⟨by decide +kernel, by decide +kernel, by unfold RowOk NumOk; decide +kernel, by decide +kernel, by unfold NumOk; decide +kernel⟩
  exact ⟨by decide +kernel, by decide +kernel, kk, by cases once <;> decide +kernel, by unfold RowOk NumOk; cases guarded <;> decide +kernel, by cases guarded <;> decide +kernel⟩
theorem pay_fits (once guarded : Bool) : (dPay once guarded).showable = true ∧ (dPay once guarded).shown.length ≤ sizeLine ∧ (dPay once guarded).depth ≤ 100 := by
  have b := pay_bd once guarded
  have r : Shw 840 2 (dRows (payRows guarded)) := (shw_rows (l := 20) (r := 40) (fun row hr => ⟨(b.h row hr).1, (b.h row hr).2⟩) b.hl).mono (by decide) (Nat.le_refl _)
  exact (shw_tup3 ((shw_cols b.nm b.cl).mono (Nat.le_refl _) (show 1 ≤ 4 by decide)) (shw_kinds b.k b.kl) (r.mono (Nat.le_refl _) (by decide))).fits (by decide) (by decide)
theorem pay_lens (once guarded : Bool) : (payKds once).length ≤ 40 ∧ (∀ k ∈ payKds once, k.rows.length ≤ 40) ∧ (payRows guarded).length ≤ 40 := by
  cases once <;> cases guarded <;> exact ⟨by decide +kernel, by decide +kernel, by decide +kernel⟩
def spShown39 (C : Addr) : Sp := fun vs H Q _ => ∃ (F : Hp) (p : Addr) (way : Int) (once guarded : Bool), vs = [.ref p, .int way] ∧ Same F H ∧ PlanAt C F p payCols (payKds once) (payRows guarded) ∧ ∀ H' : Hp, Same H H' → Q (.str (dPay once guarded).shown) H'

section
variable {P : Program} {w : World} {K : PySem.W.Frag} {mg : Str → Option Value} {base : Heap} {C : Addr}
theorem ok_law_shown (TT : Txt2 K mg) (L : PlanT K mg C) (hs : ∃ o, base.get? sysModules = some o) : FnG P w K mg base 4 "_law_shown" ["scheme", "way"] (spShown39 C) := by
  have T := TT.t
  have G_Plan_columns := ok_Plan_columns (P := P) (w := w) (base := base) T L
  have G_Plan_kinds := ok_Plan_kinds (P := P) (w := w) (base := base) T L
  have G_Plan_checks := ok_Plan_checks (P := P) (w := w) (base := base) T L
  refine TT.d_law_shown.fnG sc_law_shown (fun vs H Q E h => ?_) (fun cdv A outer f s H vs Q hg hr h => ?_)
  · obtain ⟨_, _, _, _, _, rfl, _⟩ := h; rfl
  · obtain ⟨F, p, way, once, guarded, rfl, sF, PA, q⟩ := h
    obtain ⟨l1, l2, l3⟩ := pay_lens once guarded
    obtain ⟨f1, f2, f3⟩ := pay_fits once guarded
    refine ⟨_, (pss_cons (ps_if (pt_cmpR op_eq (pv 1) pe_int (nomark _)) (pss_cons (ps_set (i := 2) sc_law_shown.nd rfl (Or.inl rfl) (pe_prp G_Plan_columns (hr.mono (by decide)) (pv 0))) (pss_cons (ps_set (i := 3) sc_law_shown.nd rfl (Or.inl rfl) (pe_prp G_Plan_kinds (hr.mono (by decide)) (pv 0))) (pss_one (ps_ret (pe_callB (cr_repr hg hr hs) (by rfl) T.z_repr (by decide +kernel) (pa_cons (pe_tup (pa_cons (pv 2) (pa_cons (pv 3) (pa_cons (pe_prp G_Plan_checks (hr.mono (by decide)) (pv 0)) pa_nil)))) pa_nil)))))) pss_nil) (pss_cons (ps_set (i := 4) sc_law_shown.nd rfl (Or.inl rfl) (pe_prp G_Plan_checks (hr.mono (by decide)) (pv 0))) (pss_cons (ps_set (i := 3) sc_law_shown.nd rfl (Or.inl rfl) (pe_prp G_Plan_kinds (hr.mono (by decide)) (pv 0))) (pss_one (ps_ret (pe_callB (cr_repr hg hr hs) (by rfl) T.z_repr (by decide +kernel) (pa_cons (pe_tup (pa_cons (pe_prp G_Plan_columns (hr.mono (by decide)) (pv 0)) (pa_cons (pv 3) (pa_cons (pv 4) pa_nil)))) pa_nil))))))), ?_⟩
    repeat fail
    refine ite2 (fun _ => ?_) (fun _ => ?_)
    · repeat fail
      refine x_planP PA sF ?_
      refine ⟨F, p, payCols, payKds once, payRows guarded, rfl, sF, PA, fun a H1 na s1 v1 => ?_⟩
      repeat fail
      refine x_planP PA (sF.trans s1) ?_
      refine ⟨F, p, payCols, payKds once, payRows guarded, rfl, sF.trans s1, PA, l1, l2, fun b H2 kas nb s2 nk => ?_⟩
      repeat fail
      refine x_planP PA ((sF.trans s1).trans s2) ?_
      refine ⟨F, p, payCols, payKds once, payRows guarded, rfl, (sF.trans s1).trans s2, PA, l3, fun c H3 rs nc s3 nr => ?_⟩
      repeat fail
      rename_i t H4 nt s4 v4
      refine ⟨.ref t, dPay once guarded, H4, rfl, Same.refl _, R_tup3.mpr ⟨t, _, _, _, rfl, v4, R_dStrs.mpr ⟨a, rfl, s4 _ _ (s3 _ _ (s2 _ _ v1))⟩, ?_, ?_⟩, f1, f2, f3, ?_⟩
      · exact R.mono ((gr_grow (sF.trans s1) s2).sub.trans (s3.trans s4)) _ _ (nk.R nb (sF.trans s1) s2)
      · exact R.mono ((gr_grow ((sF.trans s1).trans s2) s3).sub.trans s4) _ _ (nr.R nc)
      · exact q H4 (s1.trans (s2.trans (s3.trans s4)))
    · repeat fail
      refine x_planP PA sF ?_
      refine ⟨F, p, payCols, payKds once, payRows guarded, rfl, sF, PA, l3, fun c H1 rs nc s1 nr => ?_⟩
      repeat fail
      refine x_planP PA (sF.trans s1) ?_
      refine ⟨F, p, payCols, payKds once, payRows guarded, rfl, sF.trans s1, PA, l1, l2, fun b H2 kas nb s2 nk => ?_⟩
      repeat fail
      refine x_planP PA ((sF.trans s1).trans s2) ?_
      refine ⟨F, p, payCols, payKds once, payRows guarded, rfl, (sF.trans s1).trans s2, PA, fun a H3 na s3 v3 => ?_⟩
      repeat fail
      rename_i t H4 nt s4 v4
      refine ⟨.ref t, dPay once guarded, H4, rfl, Same.refl _, R_tup3.mpr ⟨t, _, _, _, rfl, v4, R_dStrs.mpr ⟨a, rfl, s4 _ _ v3⟩, ?_, ?_⟩, f1, f2, f3, ?_⟩
      · exact R.mono ((gr_grow (sF.trans s1) s2).sub.trans (s3.trans s4)) _ _ (nk.R nb (sF.trans s1) s2)
      · exact R.mono ((gr_grow sF s1).sub.trans (s2.trans (s3.trans s4))) _ _ (nr.R nc)
      · exact q H4 (s1.trans (s2.trans (s3.trans s4)))
end
end Pz
namespace Pz
open PySem L2
open PyProof.Rows (envOfC)
/-! ### a comprehension that makes data -/
theorem lcb_data {K : PySem.W.Frag} {a : Addr} {xs : List V} {g : TG} {te : TE} {vs : List Nat} {σ : St} {H : Hp} {Q : VK} (cs : List PyData) (hs : SqL K H a xs) (hl : cs.length = xs.length) (hz : xs.length ≤ 1000)
    (step : ∀ (D : Addr) (i : Nat) (x : V) (d : PyData) (H' : Hp) (Q' : VK), H D = none → H' D ≠ none → xs[i]? = some x → cs[i]? = some d → Same H H' → (∀ (v : V) (H4 : Hp), Same H' H4 → R (hid D H4) d v → Q' v H4) → g x (wipe σ vs) H' fun σ2 H2 => wipe σ2 vs = wipe σ vs ∧ te σ2 H2 Q')
    (hd : ∀ (D : Addr) (H' : Hp) (as : List V), H D = none → Same H H' → H' D = some (.lst as) → RA H' cs as → Q (.ref D) H') : LcB (Itl K a) g tYes te vs σ Q H := by
  intro D hD
  refine lc_list (K := K) (a := a) (xs := xs) (tt := tYes) (fun i H' => Same H H' ∧ ∃ as : List V, H' D = some (.lst as) ∧ RA (hid D H') (cs.take i) as) ⟨same_upd hD, [], upd_same, by simp [RA]⟩ (fun i H' _ h => h.1.seq hs) (fun i x H' hx h => ?_) (fun H' h => ?_)
  · have hi := (List.getElem?_eq_some_iff.mp hx).1
    have ec : cs[i]? = some (cs[i]'(by omega)) := List.getElem?_eq_getElem (by omega)
    generalize cs[i]'(by omega) = d at ec
    obtain ⟨s, as, e, ra⟩ := h
    have al := RA.len ra
    rw [List.length_take] at al
    refine step D i x d H' _ hD (some_ne e) hx ec s fun v H4 s4 hv => ?_
    have eh : hid D (upd H4 D (.lst (as ++ [v]))) = hid D H4 := by
      funext b
      by_cases z : b = D
      · subst z; rw [hid_at, hid_at]
      · rw [hid_ne z, hid_ne z, upd_ne z]
    have sh : Same (hid D H') (hid D H4) := fun b o q => by
      by_cases z : b = D
      · subst z; rw [hid_at] at q; cases q
      · rw [hid_ne z] at q ⊢; exact s4 _ _ q
    refine ⟨_, s4 _ _ e, small1000 (by omega), fun b o q => ?_, as ++ [v], upd_same, ?_⟩
    · rw [upd_ne (fun z => by rw [z, hD] at q; cases q)]
      exact s4 _ _ (s _ _ q)
    · rw [eh, List.take_add_one, ec]
      exact RA.snoc (RA.mono sh _ _ ra) hv
  · obtain ⟨s, as, e, ra⟩ := h
    rw [List.take_of_length_le (by omega)] at ra
    exact hd D H' as hD s e (RA.mono hid_sub _ _ ra)
end Pz
namespace Pz
open PySem L2
open PyProof.Rows (envOfC)
/-! ### _law_rows -/
theorem x_dget2 {td ty tx : TE} {σ : L2.St} {H : Hp} {Q : VK} (h : td σ H fun x H1 => ∃ a, x = .ref a ∧ IsD H1 a ∧ ty σ H1 fun y H2 => tx σ H2 fun z H3 => ∃ o, DGet H3 a y o ∧ Q (o.getD z) H3) : tDGet2 td ty tx σ H Q := h
/-- the numbers of a sum, by the columns of the tuple in slot 0 -/
theorem x_nums {K : PySem.W.Frag} {σ : L2.St} {H : Hp} {Q : VK} {i j : Nat} {th hc a : Addr} {r : List V} {cols : List Str} {tb : List (Str × Int)} (h0 : σ[0]? = some (some (.ref th))) (hi : σ[i]? = some (some (.ref a))) (ni : j ≠ i) (lj : j < σ.length) (ht : H th = some (.tup (.ref hc :: r))) (hcc : H hc = some (.lst (cols.map V.str))) (ha : H a = some (.dK (eSum tb))) (cl : cols.length ≤ 1000)
    (q : ∀ D H', H D = none → Same H H' → H' D = some (.lst ((cols.map (look tb)).map V.int)) → Q (.ref D) H') : tLc (iList K (tOp (rIxT K) (tVar 0) (tC (V.int 0)))) (gName j) tYes (tDGet2 (tVar i) (tVar j) (tC (V.int 0))) [j] σ H Q := by
  refine x_lc (x_il (x_op (x_var h0 (x_c (x_ixT (SqT.of ht) (at0 rfl) (x_ilist (SqL.of hcc) (lcb_vals ((cols.map (look tb)).map V.int) (SqL.of hcc) (by simp) (by rw [List.length_map]; exact cl) ?_ q)))))))
  intro k x y H' Q' hx hy s qk
  rw [List.getElem?_map] at hx
  obtain ⟨c, hc, rfl⟩ := Option.map_eq_some_iff.mp hx
  rw [List.map_map, List.getElem?_map, hc] at hy
  cases hy
  refine x_gname (x_wipe ((wipe_set (List.mem_singleton.mpr rfl)).trans wipe_wipe) (x_dget2 (x_var (v := .ref a) ?_ ⟨a, rfl, .inl ⟨_, .inl (s _ _ ha)⟩, x_var (v := .str c) ?_ (x_c ⟨_, DGet.k (k := Sum.inr c) (s _ _ ha), ?_⟩)⟩)))
  · exact rd_ne ni (rd_wipe (fun z => ni (List.mem_singleton.mp z).symm) hi)
  · exact rd_same (by rw [L2.wipe_length]; exact lj)
  · have e : (valV (eSum tb) (Sum.inr c)).getD (V.int 0) = V.int (look tb c) := valV_eSum c tb
    rw [e]
    exact qk _ (Same.refl _)
def spRows39 : Sp := fun vs H Q _ => ∃ (th hc hk hh : Addr) (once guarded : Bool) (xs : List V), vs = [.ref th] ∧ H th = some (.tup [.ref hc, .ref hk, .ref hh]) ∧ PayIn H hc hk hh once guarded xs ∧ ∀ (t : Addr) (H' : Hp), Same H H' → R H' (dPay once guarded) (.ref t) → Q (.ref t) H'

section
variable {P : Program} {w : World} {K : PySem.W.Frag} {mg : Str → Option Value} {base : Heap}
theorem ok_law_rows (TT : Txt2 K mg) : Fn P w K mg base 1 "_law_rows" ["due"] spRows39 := by
  have T := TT.t
  refine TT.d_law_rows.fn sc_law_rows (fun vs H Q E h => ?_) (fun cdv A outer f s H vs Q E hr h => ?_)
  · obtain ⟨_, _, _, _, _, _, _, rfl, _⟩ := h; rfl
  · obtain ⟨th, hc, hk, hh, once, guarded, xs, rfl, ht, PI, q⟩ := h
    have good := pay_good once guarded
    obtain ⟨l1, l2, l3⟩ := pay_lens once guarded
    refine ⟨_, (pss_cons (ps_set (i := 1) sc_law_rows.nd rfl (Or.inl rfl) (pe_lst pa_nil)) (pss_cons (ps_for PassesOwn.never rfl (pi_list (pe_ix ix_tup (pv 0) pe_int (fun _ _ => rfl))) (pg_tup (by rfl) (pgs_cons (pg_name (i := 2) sc_law_rows.nd rfl (Or.inl rfl)) (pgs_cons (pg_name (i := 3) sc_law_rows.nd rfl (Or.inl rfl)) (pgs_cons (pg_name (i := 4) sc_law_rows.nd rfl (Or.inl rfl)) pgs_nil)))) (pss_one (ps_expr (pe_bm PySem.F.plainAttrs_list PySem.F.slot_list_append PySem.F.type_list_append mt_append (pv 1) (pa_cons (pe_tup (pa_cons (pv 2) (pa_cons (pe_lc (own := [("state", 7)]) (g := gName 7) (by rfl) sc_law_rows.nd (pi_list (pv 3)) (blkOk_by (own := [("state", 7)]) (N := ["due", "kinds", "label", "states", "steps", "check", "column", "state"]) (sc := defScope s_law_rows) (by decide +kernel)) (fun _ _ _ _ _ => pg_name (i := 7) sc_law_rows.nd rfl (by first | exact Or.inl rfl | exact Or.inr rfl)) (fun _ _ _ _ _ => pts_nil) (fun _ _ _ _ _ => (pe_lc (own := [("column", 6)]) (g := gName 6) (by rfl) sc_law_rows.nd (pi_listK (K := K) (pe_ix (ix_tupK (K := K)) (pv 0) pe_int (fun _ _ => rfl))) (blk_nest (blkOk_by (own := [("column", 6)]) (N := ["due", "kinds", "label", "states", "steps", "check", "column", "state"]) (sc := eSc ((eAt 1 (eAt 1 (sVal (sAt (sBody (sAt (defBody s_law_rows) 1)) 0)))))) (by decide +kernel))) (fun _ _ _ _ _ => pg_name (i := 6) sc_law_rows.nd rfl (by first | exact Or.inl rfl | exact Or.inr rfl)) (fun _ _ _ _ _ => pts_nil) (fun _ _ _ _ _ => (pe_dget2 (hu_of hr) (pv 7) (pv 6) pe_int ⟨rfl, rfl, rfl, rfl⟩))))) (pa_cons (pv 4) pa_nil)))) pa_nil))))) (pss_one (ps_ret (pe_tup (pa_cons (pe_ix ix_tup (pv 0) pe_int (fun _ _ => rfl)) (pa_cons (pv 1) (pa_cons (pe_lc (own := [("check", 5)]) (g := gName 5) (by rfl) sc_law_rows.nd (pi_list (pe_ix ix_tup (pv 0) pe_int (fun _ _ => rfl))) (blkOk_by (own := [("check", 5)]) (N := ["due", "kinds", "label", "states", "steps", "check", "column", "state"]) (sc := defScope s_law_rows) (by decide +kernel)) (fun _ _ _ _ _ => pg_name (i := 5) sc_law_rows.nd rfl (by first | exact Or.inl rfl | exact Or.inr rfl)) (fun _ _ _ _ _ => pts_nil) (fun _ _ _ _ _ => (pe_lc (own := [("column", 6)]) (g := gName 6) (by rfl) sc_law_rows.nd (pi_listK (K := K) (pe_ix (ix_tupK (K := K)) (pv 0) pe_int (fun _ _ => rfl))) (blk_nest (blkOk_by (own := [("column", 6)]) (N := ["due", "kinds", "label", "states", "steps", "check", "column", "state"]) (sc := eSc ((eAt 2 (sVal (sAt (defBody s_law_rows) 2))))) (by decide +kernel))) (fun _ _ _ _ _ => pg_name (i := 6) sc_law_rows.nd rfl (by first | exact Or.inl rfl | exact Or.inr rfl)) (fun _ _ _ _ _ => pts_nil) (fun _ _ _ _ _ => (pe_dget2 (hu_of hr) (pv 5) (pv 6) pe_int ⟨rfl, rfl, rfl, rfl⟩))))) pa_nil)))))))), ?_⟩
    repeat fail
    rename_i D H1 nD s1 v1
    have ht1 := s1 _ _ ht
    have P1 := PI.mono s1
    refine x_ilist (SqL.of P1.k_) ?_
    have xl : xs.length = (payKds once).length := PI.ks.1
    refine forb_list (xs := xs) (fun i σ' H' => ∃ v2 v3 v4 ys F', σ' = [some (.ref th), some (.ref D), v2, v3, v4, none, none, none] ∧ Same H H' ∧ H' D = some (.lst ys) ∧ Gr H H F' H' ∧ F' D = none ∧ RA F' (((payKds once).take i).map dKind) ys)
      ⟨_, _, _, [], H, rfl, s1, v1, (Gr.refl (Same.refl H)).step s1, nD, by simp [RA]⟩ (fun i σ' H' _ ⟨_, _, _, _, _, _, s', _⟩ => SqL.of (s' _ _ PI.k_)) ?_ ?_
    · rintro i x σ' H' hx ⟨v2, v3, v4, ys, F', rfl, s', e', gr, fD, ra⟩
      have hi : i < (payKds once).length := by rw [← xl]; exact (List.getElem?_eq_some_iff.mp hx).1
      have hki : (payKds once)[i]? = some (payKds once)[i] := List.getElem?_eq_getElem hi
      have gk := good.k _ (List.getElem_mem hi)
      generalize (payKds once)[i] = k at *
      obtain ⟨t0, st, sp, zs, rfl, ht0, hst, hsp, hzs⟩ := PI.ks.2 i _ _ hki hx
      repeat fail
      obtain ⟨_, rxs, er, hrx, hra⟩ := R_list.mp (R.mono s' _ _ hst)
      cases er
      have rl : rxs.length = k.sums.length := by have := RA.len hra; rw [List.length_map] at this; exact this
      have k40 := gk.len
      refine x_ilist (SqL.of hrx) ?_
      intro D2 nD2
      refine lc_data (K := K) (a := st) (xs := rxs) (F0 := F') (k.rows.map dInts) (by rw [gk.rows, List.length_map, List.length_map, rl]) (by omega) (SqL.of hrx) nD2 gr.sub (fun j x d F2 H2 Q' hx2 hd s2 g2 nD2' fD2 qk => ?_) (fun F2 H2 as s2 g2 fD2 ra2 v2 => ?_)
      · have hj : j < k.sums.length := by rw [← rl]; exact (List.getElem?_eq_some_iff.mp hx2).1
        have ej : k.sums[j]? = some k.sums[j] := List.getElem?_eq_getElem hj
        rw [gk.rows, List.map_map, List.getElem?_map, ej] at hd
        cases hd
        obtain ⟨x', hx', hR⟩ := RA.at hra (show (k.sums.map dSum)[j]? = some (dSum k.sums[j]) by rw [List.getElem?_map, ej]; rfl)
        rw [hx2] at hx'
        cases hx'
        obtain ⟨a, rfl, ha⟩ := R_dSum.mp hR
        have sH2 := s'.trans s2
        refine x_gname (x_wipe rfl ?_)
        exact x_nums (i := 7) (j := 6) (σ := [some (.ref th), some (.ref D), some (.str k.name), some (.ref st), some (.ref sp), none, none, some (.ref a)]) (cols := payCols) rfl rfl (by decide) (Nat.le_of_ble_eq_true rfl) (sH2 _ _ ht) (sH2 _ _ PI.c_) (s2 _ _ ha) (by decide) fun D3 H3 n3 s3 v3 => qk _ _ _ s3 (Gr.one (g2.sub.trans s3) n3 v3) (R_dInts.mpr ⟨D3, rfl, upd_same⟩)
      repeat fail
      rename_i t H3 nt s3 v3
      have vD := s3 _ _ (s2 _ _ e')
      refine x_append vD (by have := RA.len ra; rw [List.length_map, List.length_take] at this; omega) fun H4 s4 v4 => ?_
      have g3 := (g2.snoc nD2 v2).step s3
      have n3 : H' t = none := same_none s2 nt
      have g4 := g3.snoc n3 v3
      have eD : upd (upd F2 D2 (.lst as)) t (.tup [.str k.name, .ref D2, .ref sp]) D = none := g4.out fD (some_ne e')
      have g5 := (gr.trans g4 fun b hb => same_none s' hb)
      have nDt : D ≠ t := fun z => by rw [z, n3] at e'; cases e'
      refine ⟨_, _, _, ys ++ [.ref t], _, rfl, fun b o e => s4 b o (fun z => by rw [z, nD] at e; cases e) (s3 _ _ (s2 _ _ (s' _ _ e))), v4, g5.well eD s4, eD, ?_⟩
      rw [List.take_add_one, hki, List.map_append]
      refine RA.append (RA.mono g4.le _ _ ra) ?_
      show RA _ [dKind k] _
      simp only [RA]
      have sp0 : Same H (upd (upd F2 D2 (.lst as)) t (.tup [.str k.name, .ref D2, .ref sp])) := gr.le.trans g4.le
      have n2t : D2 ≠ t := fun z => by rw [z, nt] at v2; cases v2
      refine ⟨_, [], rfl, R_dKind.mpr ⟨t, .ref D2, .ref sp, rfl, upd_same, R_list.mpr ⟨D2, as, rfl, ?_, RA.mono (fun b o e => ?_) _ _ ra2⟩, R_list.mpr ⟨sp, zs, rfl, sp0 _ _ hsp, RA.mono sp0 _ _ hzs⟩⟩, rfl⟩
      · rw [upd_ne n2t]; exact upd_same
      · rw [upd_ne (fun z => by have := g2.sub _ _ e; rw [z, nt] at this; cases this), upd_ne (fun z => by rw [z, fD2] at e; cases e)]
        exact e
    · rintro σ' H' ⟨v2, v3, v4, ys, F', rfl, s', e', gr, fD, ra⟩
      rw [xl, List.take_of_length_le (Nat.le_refl _)] at ra
      have ht' := s' _ _ ht
      have P' := PI.mono s'
      repeat fail
      obtain ⟨_, rxs, er, hrx, hra⟩ := R_list.mp P'.h_
      cases er
      refine x_ilist (SqL.of hrx) ?_
      have rl : rxs.length = (payChs guarded).length := by have := RA.len hra; rw [List.length_map] at this; exact this
      have k40 := good.slen
      intro D2 nD2
      refine lc_data (K := K) (a := hh) (xs := rxs) (F0 := F') ((payRows guarded).map dInts) (by rw [payRows, List.length_map, List.length_map, rl]) (by omega) (SqL.of hrx) nD2 gr.sub (fun j x d F2 H2 Q' hx2 hd s2 g2 nD2' fD2 qk => ?_) (fun F2 H2 as s2 g2 fD2 ra2 v2 => ?_)
      · have hj : j < (payChs guarded).length := by rw [← rl]; exact (List.getElem?_eq_some_iff.mp hx2).1
        have ej : (payChs guarded)[j]? = some (payChs guarded)[j] := List.getElem?_eq_getElem hj
        rw [payRows, List.map_map, List.getElem?_map, ej] at hd
        cases hd
        obtain ⟨x', hx', hR⟩ := RA.at hra (show ((payChs guarded).map dSum)[j]? = some (dSum (payChs guarded)[j]) by rw [List.getElem?_map, ej]; rfl)
        rw [hx2] at hx'
        cases hx'
        obtain ⟨a, rfl, ha⟩ := R_dSum.mp hR
        have sH2 := s'.trans s2
        refine x_gname (x_wipe rfl ?_)
        exact x_nums (i := 5) (j := 6) (σ := [some (.ref th), some (.ref D), v2, v3, v4, some (.ref a), none, none]) (cols := payCols) rfl rfl (by decide) (Nat.le_of_ble_eq_true rfl) (sH2 _ _ ht) (sH2 _ _ PI.c_) (s2 _ _ ha) (by decide) fun D3 H3 n3 s3 v3 => qk _ _ _ s3 (Gr.one (g2.sub.trans s3) n3 v3) (R_dInts.mpr ⟨D3, rfl, upd_same⟩)
      repeat fail
      rename_i t H3 nt s3 v3
      have h2 := s2.trans s3
      refine q t H3 (s'.trans h2) (R_tup3.mpr ⟨t, _, _, _, rfl, v3, R_dStrs.mpr ⟨hc, rfl, h2 _ _ P'.c_⟩, R_list.mpr ⟨D, ys, rfl, h2 _ _ e', RA.mono (gr.sub.trans h2) _ _ ra⟩, R_list.mpr ⟨D2, as, rfl, s3 _ _ v2, RA.mono (g2.sub.trans s3) _ _ ra2⟩⟩)
end
end Pz
namespace Pz
open PySem L2
open PyProof.Rows (envOfC)
/-! ### data that can't be the well -/
def isI3 : List PyData → Bool
  | [.int _, .int _, .int _] => true
  | _ => false
mutual
def noW : PyData → Bool
  | .none => true
  | .bool _ => true
  | .int _ => true
  | .str _ => true
  | .list ds => !isI3 ds && noWA ds
  | .tuple ds => noWA ds
  | .dict kvs => noWK kvs
def noWA : List PyData → Bool
  | [] => true
  | d :: ds => noW d && noWA ds
def noWK : List (PyData × PyData) → Bool
  | [] => true
  | p :: ds => noW p.2 && noWK ds
end
theorem R_isInt {F : Hp} {d : PyData} {i : Int} (h : R F d (.int i)) : d = .int i := by
  cases d with
  | int j => simp only [R] at h; cases h; rfl
  | none => simp only [R] at h; cases h
  | bool b => simp only [R] at h; cases h
  | str s => simp only [R] at h; cases h
  | list ds => simp only [R] at h; obtain ⟨_, _, e, _⟩ := h; cases e
  | tuple ds => simp only [R] at h; obtain ⟨_, _, e, _⟩ := h; cases e
  | dict ds => simp only [R] at h; obtain ⟨_, _, e, _⟩ := h; cases e
theorem RA_i3 {F : Hp} {ds : List PyData} {a b c : Int} (h : RA F ds [.int a, .int b, .int c]) : isI3 ds = true := by
  have l := RA.len h
  match ds, h, l with
  | [], _, l => cases l
  | [x], _, l => cases l
  | [x, y], _, l => cases l
  | [x, y, z], h, _ =>
    simp only [RA] at h
    obtain ⟨_, _, e, h1, _, _, rfl, h2, _, _, rfl, h3, rfl⟩ := h
    cases e
    rw [R_isInt h1, R_isInt h2, R_isInt h3]; rfl
  | x :: y :: z :: u :: r, _, l => simp at l
section
variable {w : Addr} {H : Hp} {a b c : Int}
mutual
theorem R.out (hw : H w = some (.lst [.int a, .int b, .int c])) : ∀ (d : PyData) (v : V), R H d v → noW d = true → R (hid w H) d v
  | .none, v, h, _ => by simpa only [R] using h
  | .bool _, v, h, _ => by simpa only [R] using h
  | .int _, v, h, _ => by simpa only [R] using h
  | .str _, v, h, _ => by simpa only [R] using h
  | .list ds, v, h, n => by
    simp only [R] at h ⊢
    simp only [noW, Bool.and_eq_true, Bool.not_eq_true'] at n
    obtain ⟨l, xs, rfl, h1, h2⟩ := h
    refine ⟨l, xs, rfl, ?_, RA.out hw ds xs h2 n.2⟩
    rw [hid_ne]
    · exact h1
    · intro z
      rw [z, hw] at h1
      cases h1
      have := RA_i3 h2
      rw [n.1] at this
      cases this
  | .tuple ds, v, h, n => by
    simp only [R] at h ⊢
    simp only [noW] at n
    obtain ⟨l, xs, rfl, h1, h2⟩ := h
    refine ⟨l, xs, rfl, ?_, RA.out hw ds xs h2 n⟩
    rw [hid_ne]
    · exact h1
    · intro z
      rw [z, hw] at h1
      cases h1
  | .dict kvs, v, h, n => by
    simp only [R] at h ⊢
    simp only [noW] at n
    obtain ⟨l, xs, rfl, h1, h2⟩ := h
    refine ⟨l, xs, rfl, ?_, RK.out hw kvs xs h2 n⟩
    rw [hid_ne]
    · exact h1
    · intro z
      rw [z, hw] at h1
      cases h1
theorem RA.out (hw : H w = some (.lst [.int a, .int b, .int c])) : ∀ (ds : List PyData) (vs : List V), RA H ds vs → noWA ds = true → RA (hid w H) ds vs
  | [], vs, h, _ => by simpa only [RA] using h
  | d :: ds, vs, h, n => by
    simp only [RA] at h ⊢
    simp only [noWA, Bool.and_eq_true] at n
    obtain ⟨x, r, rfl, h1, h2⟩ := h
    exact ⟨x, r, rfl, R.out hw d x h1 n.1, RA.out hw ds r h2 n.2⟩
theorem RK.out (hw : H w = some (.lst [.int a, .int b, .int c])) : ∀ (ds : List (PyData × PyData)) (vs : List (Key × V)), RK H ds vs → noWK ds = true → RK (hid w H) ds vs
  | [], vs, h, _ => by simpa only [RK] using h
  | (k, d) :: ds, vs, h, n => by
    simp only [RK] at h ⊢
    simp only [noWK, Bool.and_eq_true] at n
    obtain ⟨kk, x, r, rfl, hk, h1, h2⟩ := h
    exact ⟨kk, x, r, rfl, hk, R.out hw d x h1 n.1, RK.out hw ds r h2 n.2⟩
end
end
theorem PlanAt.out {C p w : Addr} {H : Hp} {N : Nat} {cols : List Str} {kds : List KD} {chk : List (List Int)} (h : PlanAt C H p cols kds chk) (hw : Wl H w N) (n1 : noW (dStrs cols) = true) (n2 : noW (.list (kds.map dKind)) = true) (n3 : noW (dRows chk) = true) : PlanAt C (hid w H) p cols kds chk := by
  obtain ⟨a, b, c0, hw, _⟩ := hw
  obtain ⟨dx, c, k, hh, h1, h2, h3, h4⟩ := h
  refine ⟨dx, c, k, hh, ?_, ?_, R.out hw _ _ h3 n2, R.out hw _ _ h4 n3⟩
  · rw [hid_ne]
    · exact h1
    · intro z; rw [z, hw] at h1; cases h1
  · have := R.out hw _ _ (R_dStrs.mpr ⟨c, rfl, h2⟩) n1
    obtain ⟨c', e, h⟩ := R_dStrs.mp this
    cases e
    exact h
end Pz
namespace Pz
open PySem L2
open PyProof.Rows (envOfC)
/-! ### _law_spoilt -/
theorem PayIn.out {H : Hp} {hc hk hh w : Addr} {once guarded : Bool} {xs : List V} {N : Nat} (h : PayIn H hc hk hh once guarded xs) (hw : Wl H w N) : PayIn (hid w H) hc hk hh once guarded xs := by
  obtain ⟨a, b, c0, hw, _⟩ := hw
  have kk : ∀ k ∈ payKds once, noW (.list (k.sums.map dSum)) = true ∧ noW (.list (k.steps.map dStep)) = true := by cases once <;> decide +kernel
  refine ⟨?_, ?_, ⟨h.ks.1, fun i k x e1 e2 => ?_⟩, R.out hw _ _ h.h_ (by cases guarded <;> decide +kernel)⟩
  · have := R.out hw _ _ (R_dStrs.mpr ⟨hc, rfl, h.c_⟩) (by decide +kernel)
    obtain ⟨c', e, h⟩ := R_dStrs.mp this
    cases e
    exact h
  · rw [hid_ne]
    · exact h.k_
    · intro z
      have e := h.k_
      rw [z, hw] at e
      have e' : [V.int a, V.int b, V.int c0] = xs := by injection e with e; injection e
      obtain ⟨t, _, _, _, q, _⟩ := h.ks.2 0 _ (V.int a) rfl (by rw [← e']; rfl)
      cases q
  · obtain ⟨t, st, sp, zs, rfl, ht, hs, hp, hz⟩ := h.ks.2 i k x e1 e2
    have ks := kk k (List.mem_of_getElem? e1)
    have r2 := R.out hw _ _ (R_list.mpr ⟨sp, zs, rfl, hp, hz⟩) ks.2
    obtain ⟨_, _, e, hp', hz'⟩ := R_list.mp r2
    cases e
    refine ⟨t, st, sp, _, rfl, ?_, R.out hw _ _ hs ks.1, hp', hz'⟩
    rw [hid_ne]
    · exact ht
    · intro z; rw [z, hw] at ht; cases ht
theorem sm_put {w a : Addr} {H H1 H6 Hf : Hp} (s1 : Sm w H H1) (n : H1 a = none) (s2 : Sm w H1 H6) (s3 : Sm a H6 Hf) : Sm w H Hf := fun b o nb e => by
  have e1 := s1 b o nb e
  exact s3 b o (fun z => by rw [z, n] at e1; cases e1) (s2 b o nb e1)
theorem nd_ne {w a : Addr} {H1 : Hp} {N : Nat} (n : H1 a = none) (hw : Wl H1 w N) : w ≠ a := fun z => hw.ne (by rw [z]; exact n)
def spSpoilt39 (C : Addr) : Sp := fun vs H Q _ => ∃ (F : Hp) (p w : Addr) (N : Nat) (once guarded : Bool), vs = [.ref p, .ref w] ∧ Same F H ∧ F w = none ∧ PlanAt C F p payCols (payKds once) (payRows guarded) ∧ Wl H w N ∧ N ≤ 1000000 ∧
  ∀ (r : Int) (H' : Hp), 0 ≤ r → r ≤ 4 → Sm w H H' → Wl H' w (N + 10) → Q (.int r) H'
theorem sm_sub {F H H' : Hp} {w : Addr} (sF : Same F H) (fw : F w = none) (s : Sm w H H') : Same F H' := fun b o e => s b o (fun z => by rw [z, fw] at e; cases e) (sF b o e)

section
variable {P : Program} {w : World} {K : PySem.W.Frag} {mg : Str → Option Value} {base : Heap} {C : Addr}
theorem ok_law_spoilt (TT : Txt2 K mg) (L : PlanT K mg C) : Fn P w K mg base 4 "_law_spoilt" ["scheme", "well"] (spSpoilt39 C) := by
  have T := TT.t
  have G_law_pick := ok_law_pick (P := P) (w := w) (base := base) T
  have G_Plan_columns := ok_Plan_columns (P := P) (w := w) (base := base) T L
  have G_Plan_kinds := ok_Plan_kinds (P := P) (w := w) (base := base) T L
  have G_Plan_checks := ok_Plan_checks (P := P) (w := w) (base := base) T L
  refine TT.d_law_spoilt.fn sc_law_spoilt (fun vs H Q E h => ?_) (fun cdv A outer f s H vs Q E hr h => ?_)
  · obtain ⟨_, _, _, _, _, _, rfl, _⟩ := h; rfl
  · obtain ⟨F, p, w, N, once, guarded, rfl, sF, fw, PA, hw, hN, q⟩ := h
    obtain ⟨l1, l2, l3⟩ := pay_lens once guarded
    refine ⟨_, (pss_cons (ps_set (i := 2) sc_law_spoilt.nd rfl (Or.inl rfl) (pe_fn G_law_pick (hr.mono (by decide)) (by rfl) (pa_cons (pv 1) (pa_cons pe_int pa_nil)))) (pss_cons (ps_set (i := 3) sc_law_spoilt.nd rfl (Or.inl rfl) (pe_prp G_Plan_columns (hr.mono (by decide)) (pv 0))) (pss_cons (ps_set (i := 4) sc_law_spoilt.nd rfl (Or.inl rfl) (pe_prp G_Plan_kinds (hr.mono (by decide)) (pv 0))) (pss_cons (ps_set (i := 5) sc_law_spoilt.nd rfl (Or.inl rfl) (pe_prp G_Plan_checks (hr.mono (by decide)) (pv 0))) (pss_cons (ps_set (i := 6) sc_law_spoilt.nd rfl (Or.inl rfl) (pe_ix ix_list (pv 4) (pe_fn G_law_pick (hr.mono (by decide)) (by rfl) (pa_cons (pv 1) (pa_cons pe_int pa_nil))) (fun _ _ => rfl))) (C8.pss_cut (ps_if (pt_cmpR op_eq (pv 2) pe_int (nomark _)) (pss_one (ps_expr (pe_bm0 PySem.F.plainAttrs_list PySem.F.slot_list_reverse PySem.F.type_list_reverse mt_reverse (pv 3)))) pss_nil) (C8.pss_cut (ps_if (pt_cmpR op_eq (pv 2) pe_int (nomark _)) (pss_one (ps_expr (pe_bm0 PySem.F.plainAttrs_list PySem.F.slot_list_pop PySem.F.type_list_pop mt_pop (pv 4)))) pss_nil) (C8.pss_cut (ps_if (pt_cmpR op_eq (pv 2) pe_int (nomark _)) (pss_cons (ps_set (i := 7) sc_law_spoilt.nd rfl (Or.inl rfl) (pe_ix ix_list (pe_ix ix_tup (pv 6) pe_int (fun _ _ => rfl)) (pe_fn G_law_pick (hr.mono (by decide)) (by rfl) (pa_cons (pv 1) (pa_cons pe_int pa_nil))) (fun _ _ => rfl))) (pss_one (ps_asg pe_int (pg_sub (pv 7) (pe_fn G_law_pick (hr.mono (by decide)) (by rfl) (pa_cons (pv 1) (pa_cons pe_int pa_nil))) set_list)))) pss_nil) (C8.pss_cut (ps_if (pt_cmpR op_eq (pv 2) pe_int (nomark _)) (pss_one (ps_expr (pe_bm PySem.F.plainAttrs_list PySem.F.slot_list_append PySem.F.type_list_append mt_append (pe_ix ix_tup (pv 6) pe_int (fun _ _ => rfl)) (pa_cons (pe_tup (pa_cons pe_str (pa_cons pe_int (pa_cons pe_int pa_nil)))) pa_nil)))) pss_nil) (C8.pss_cut (ps_if (pt_cut (PW.pt (pw_and (pt_cmpR op_eq (pv 2) pe_int (nomark _)) (pw_and1 (pt_cmpR (op_neNil (hu_of hr)) (pv 5) (pe_lst pa_nil) (nomark _)))))) (pss_one (ps_expr (pe_bm0 PySem.F.plainAttrs_list PySem.F.slot_list_clear PySem.F.type_list_clear mt_clear (pe_ix ix_list (pv 5) (pe_fn G_law_pick (hr.mono (by decide)) (by rfl) (pa_cons (pv 1) (pa_cons pe_int pa_nil))) (fun _ _ => rfl))))) pss_nil) (pss_one (ps_ret (pv 2))))))))))))), ?_⟩
    repeat fail
    intro way H1 y0 y1 s1 w1
    have sF1 := sm_sub sF fw s1
    repeat fail
    refine x_planP PA sF1 ?_
    refine ⟨F, p, payCols, payKds once, payRows guarded, rfl, sF1, PA, fun a H2 na s2 va => ?_⟩
    have sF2 := sF1.trans s2
    repeat fail
    refine x_planP PA sF2 ?_
    refine ⟨F, p, payCols, payKds once, payRows guarded, rfl, sF2, PA, l1, l2, fun b H3 kas nb s3 nk => ?_⟩
    have sF3 := sF2.trans s3
    repeat fail
    refine x_planP PA sF3 ?_
    refine ⟨F, p, payCols, payKds once, payRows guarded, rfl, sF3, PA, l3, fun c H4 rs nc s4 nr => ?_⟩
    have w4 := ((w1.same s2).same s3).same s4
    repeat fail
    intro j H5 j0 j1 s5 w5
    have kl : kas.length = 3 := by rw [nk.len]; rfl
    obtain ⟨ka, hka⟩ : ∃ ka, kas[j.toNat]? = some ka := ⟨kas[j.toNat]'(by omega), List.getElem?_eq_getElem _⟩
    obtain ⟨kd, hkd⟩ : ∃ kd, (payKds once)[j.toNat]? = some kd := ⟨(payKds once)[j.toNat]'(by rw [← nk.len]; omega), List.getElem?_eq_getElem _⟩
    have NK := nk.ct _ _ _ hka hkd
    obtain ⟨f1, f2, f3⟩ := nk.fr _ (List.mem_of_getElem? hka)
    have w2 := w1.same s2
    have bw : b ≠ w := fun z => w2.ne (z ▸ nb)
    have hb5 : H5 b = some (.lst (kas.map fun a => V.ref a.1)) := s5 _ _ bw (s4 _ _ nk.at_)
    refine x_ixL (SqL.of hb5) (v := .ref ka.1) (by
      have e : j = ((j.toNat : Nat) : Int) := by omega
      rw [e]; exact atI_nat (by rw [List.getElem?_map, hka]; rfl)) ?_
    repeat fail
    have S25 : Sm w H2 H5 := (Sm.same (s3.trans s4)).trans s5
    have S05 : Sm w H H5 := s1.trans ((Sm.same s2).trans S25)
    have S12 : Sm w H H2 := s1.trans (Sm.same s2)
    have S13 : Sm w H H3 := S12.trans (Sm.same s3)
    have S11 : Sm w H H1 := s1
    have w3 := w2.same s3
    have aw : a ≠ w := fun z => w1.ne (z ▸ na)
    have fw1 : ka.1 ≠ w := fun z => w2.ne (z ▸ f1)
    have va5 : H5 a = some (.lst (payCols.map V.str)) := s5 _ _ aw (s4 _ _ (s3 _ _ va))
    have vt5 : H5 ka.1 = some (.tup [.str kd.name, .ref ka.2.1, .ref ka.2.2.1]) := s5 _ _ fw1 (s4 _ _ NK.tup)
    have vs5 : H5 ka.2.1 = some (.lst (ka.2.2.2.map V.ref)) := s5 _ _ (fun z => w2.ne (z ▸ f2)) (s4 _ _ NK.rows.at_)
    obtain ⟨zs, hz3, _⟩ := NK.steps
    have vp5 : H5 ka.2.2.1 = some (.lst zs) := s5 _ _ (fun z => w2.ne (z ▸ f3)) (s4 _ _ hz3)
    have vc5 : H5 c = some (.lst (rs.map V.ref)) := s5 _ _ (fun z => w3.ne (z ▸ nc)) nr.at_
    have S35 : Sm w H3 H5 := (Sm.same s4).trans s5
    have S15 : Sm w H1 H5 := (Sm.same s2).trans S25
    have w55 : Wl H5 w (N + 4) := w5
    refine x_cut (fun σ' H' => ∃ v7, σ' = [some (.ref p), some (.ref w), some (.int way), some (.ref a), some (.ref b), some (.ref c), some (.ref ka.1), v7] ∧ Sm w H H' ∧ Wl H' w (N + 10) ∧ ((0 : Int) < way → Sm w H5 H' ∧ Wl H' w (N + 4))) ?_ ?_
    · repeat fail
      refine ite2 (fun cc => ?_) (fun cc => ?_)
      · have ew : way = 0 := by simpa using cc
        obtain ⟨sA, wA⟩ : Sm w H5 H5 ∧ Wl H5 w (N + 4) := ⟨Sm.refl _, w55⟩
        have VA := sA _ _ aw va5
        repeat fail
        refine ⟨a, _, rfl, rfl, VA, ?_⟩
        exact ⟨_, rfl, sm_put S11 na (S15.trans sA) Sm.upd, (wA.put aw).mono (by omega), fun z => absurd z (by omega)⟩
      · have ew : way ≠ 0 := by simpa using cc
        repeat fail
        exact ⟨_, rfl, S05, w55.mono (by omega), fun z => (fun _ : way > -1 => (⟨Sm.refl _, w55⟩ : Sm w H5 H5 ∧ Wl H5 w (N + 4))) (by omega)⟩
    rintro σ0 H0' ⟨v0, rfl, sm0, wl0, al0⟩
    refine x_cut (fun σ' H' => ∃ v7, σ' = [some (.ref p), some (.ref w), some (.int way), some (.ref a), some (.ref b), some (.ref c), some (.ref ka.1), v7] ∧ Sm w H H' ∧ Wl H' w (N + 10) ∧ ((1 : Int) < way → Sm w H5 H' ∧ Wl H' w (N + 4))) ?_ ?_
    · repeat fail
      refine ite2 (fun cc => ?_) (fun cc => ?_)
      · have ew : way = 1 := by simpa using cc
        obtain ⟨sA, wA⟩ := al0 (by omega)
        have VA := sA _ _ bw hb5
        repeat fail
        obtain ⟨y, hy⟩ : ∃ y, (kas.map fun a => V.ref a.1)[(kas.map fun a => V.ref a.1).length - 1]? = some y := ⟨_, List.getElem?_eq_getElem (by rw [List.length_map, kl]; decide)⟩
        refine ⟨b, _, y, rfl, rfl, VA, hy, ?_⟩
        exact ⟨_, rfl, sm_put S12 nb (S25.trans sA) Sm.upd, (wA.put bw).mono (by omega), fun z => absurd z (by omega)⟩
      · have ew : way ≠ 1 := by simpa using cc
        repeat fail
        exact ⟨_, rfl, sm0, wl0, fun z => al0 (by omega)⟩
    rintro σ1 H1' ⟨v1, rfl, sm1, wl1, al1⟩
    refine x_cut (fun σ' H' => ∃ v7, σ' = [some (.ref p), some (.ref w), some (.int way), some (.ref a), some (.ref b), some (.ref c), some (.ref ka.1), v7] ∧ Sm w H H' ∧ Wl H' w (N + 10) ∧ ((2 : Int) < way → Sm w H5 H' ∧ Wl H' w (N + 4))) ?_ ?_
    · repeat fail
      refine ite2 (fun cc => ?_) (fun cc => ?_)
      · have ew : way = 2 := by simpa using cc
        obtain ⟨sA, wA⟩ := al1 (by omega)
        repeat fail
        intro r H6 r0 r1 s6 w6
        have kk : ∀ k ∈ payKds once, 3 ≤ k.rows.length ∧ ∀ row ∈ k.rows, row.length = 5 := by cases once <;> decide +kernel
        have kk1 := kk kd (List.mem_of_getElem? hkd)
        have rl := NK.rows.len
        obtain ⟨ra, hra⟩ : ∃ ra, ka.2.2.2[r.toNat]? = some ra := ⟨ka.2.2.2[r.toNat]'(by omega), List.getElem?_eq_getElem _⟩
        obtain ⟨row, hrow⟩ : ∃ row, kd.rows[r.toNat]? = some row := ⟨kd.rows[r.toNat]'(by omega), List.getElem?_eq_getElem _⟩
        have l5 := kk1.2 row (List.mem_of_getElem? hrow)
        have nra := NK.rows.fr ra (List.mem_of_getElem? hra)
        have raw : ra ≠ w := fun z => w2.ne (z ▸ nra)
        have vr5 : H5 ra = some (.lst (row.map V.int)) := s5 _ _ raw (s4 _ _ (NK.rows.ct _ _ _ hra hrow))
        have s1w := nd_ne f2 w2
        refine x_ixL (SqL.of (s6 _ _ (Ne.symm s1w) (sA _ _ (Ne.symm s1w) vs5))) (v := .ref ra) (by
          have e : r = ((r.toNat : Nat) : Int) := by omega
          rw [e]; exact atI_nat (by rw [List.getElem?_map, hra]; rfl)) ?_
        repeat fail
        intro z H7 z0 z1 s7 w7
        refine x_setL (j := z.toNat) (s7 _ _ raw (s6 _ _ raw (sA _ _ raw vr5))) (by
          have e : z = ((z.toNat : Nat) : Int) := by omega
          rw [e]; exact ixN_nat (by rw [List.length_map]; omega)) fun H8 s8 v8 => ?_
        have s27 := S25.trans (sA.trans (s6.trans s7))
        refine ⟨_, rfl, sm_put S12 nra s27 s8, ?_, fun zz => absurd zz (by omega)⟩
        obtain ⟨c0, c1, c2, e7, rest⟩ := w7
        exact Wl.mono ⟨c0, c1, c2, s8 _ _ (Ne.symm raw) e7, rest⟩ (by omega)
      · have ew : way ≠ 2 := by simpa using cc
        repeat fail
        exact ⟨_, rfl, sm1, wl1, fun z => al1 (by omega)⟩
    rintro σ2 H2' ⟨v2, rfl, sm2, wl2, al2⟩
    refine x_cut (fun σ' H' => ∃ v7, σ' = [some (.ref p), some (.ref w), some (.int way), some (.ref a), some (.ref b), some (.ref c), some (.ref ka.1), v7] ∧ Sm w H H' ∧ Wl H' w (N + 10) ∧ ((3 : Int) < way → Sm w H5 H' ∧ Wl H' w (N + 4))) ?_ ?_
    · repeat fail
      refine ite2 (fun cc => ?_) (fun cc => ?_)
      · have ew : way = 3 := by simpa using cc
        obtain ⟨sA, wA⟩ := al2 (by omega)
        repeat fail
        rename_i tt H6 ntt s6 v6
        have f3w := nd_ne f3 w2
        refine x_append (s6 _ _ (sA _ _ (Ne.symm f3w) vp5)) ?_ fun H7 s7 v7 => ?_
        · have e := NK.steps
          obtain ⟨zs', e1, e2⟩ := e
          rw [hz3] at e1
          cases e1
          have := RA.len e2
          rw [List.length_map] at this
          have := ((pay_good once guarded).k kd (List.mem_of_getElem? hkd)).slen
          omega
        refine ⟨_, rfl, sm_put S12 f3 (S25.trans (sA.trans (Sm.same s6))) s7, ?_, fun zz => absurd zz (by omega)⟩
        obtain ⟨c0, c1, c2, e7, rest⟩ := wA.same s6
        exact Wl.mono ⟨c0, c1, c2, s7 _ _ f3w e7, rest⟩ (by omega)
      · have ew : way ≠ 3 := by simpa using cc
        repeat fail
        exact ⟨_, rfl, sm2, wl2, fun z => al2 (by omega)⟩
    rintro σ3 H3' ⟨v3, rfl, sm3, wl3, al3⟩
    refine x_cut (fun σ' H' => ∃ v7, σ' = [some (.ref p), some (.ref w), some (.int way), some (.ref a), some (.ref b), some (.ref c), some (.ref ka.1), v7] ∧ Sm w H H' ∧ Wl H' w (N + 10) ∧ ((4 : Int) < way → Sm w H5 H' ∧ Wl H' w (N + 4))) ?_ ?_
    · repeat fail
      refine x_midT (fun d H' => Same H3' H' ∧ (d = true → way = 4 ∧ rs.map V.ref ≠ [])) ?_ ?_
      · repeat fail
        refine ite2 (fun cc => ?_) (fun cc => ?_)
        · have ew : way = 4 := by simpa using cc
          obtain ⟨sA, wA⟩ := al3 (by omega)
          have VC := sA _ _ (fun z => w3.ne (z ▸ nc)) vc5
          repeat fail
          rename_i te H6 nte s6 v6
          have VC6 := s6 _ _ VC
          repeat fail
          refine ⟨s6, fun h => ⟨ew, fun z => ?_⟩⟩
          rw [z] at h
          cases h
        · exact ⟨Same.refl _, fun h => absurd h (by decide)⟩
      · rintro d H6 ⟨s6, hd⟩
        refine ite2 (fun cc => ?_) (fun cc => ?_)
        · obtain ⟨ew, ne⟩ := hd cc
          obtain ⟨sA, wA⟩ := al3 (by omega)
          have cw := nd_ne nc w3
          have VC6 := s6 _ _ (sA _ _ (Ne.symm cw) vc5)
          have w6 := wA.same s6
          have g2 : rs.length = 2 := by
            rw [nr.len]
            cases guarded with
            | true => rfl
            | false => exact absurd (List.map_eq_nil_iff.mpr (List.length_eq_zero_iff.mp (by rw [nr.len]; rfl))) ne
          repeat fail
          intro r H7 r0 r1 s7 w7
          obtain ⟨ra, hra⟩ : ∃ ra, rs[r.toNat]? = some ra := ⟨rs[r.toNat]'(by omega), List.getElem?_eq_getElem _⟩
          obtain ⟨row, hrow⟩ : ∃ row, (payRows guarded)[r.toNat]? = some row := ⟨(payRows guarded)[r.toNat]'(by rw [← nr.len]; omega), List.getElem?_eq_getElem _⟩
          have nra := nr.fr ra (List.mem_of_getElem? hra)
          have raw := nd_ne nra w3
          refine x_ixL (SqL.of (s7 _ _ (Ne.symm cw) VC6)) (v := .ref ra) (by
            have e : r = ((r.toNat : Nat) : Int) := by omega
            rw [e]; exact atI_nat (by rw [List.getElem?_map, hra]; rfl)) ?_
          have vr7 : H7 ra = some (.lst (row.map V.int)) := s7 _ _ (Ne.symm raw) (s6 _ _ (sA _ _ (Ne.symm raw) (s5 _ _ (Ne.symm raw) (nr.ct _ _ _ hra hrow))))
          repeat fail
          refine ⟨ra, _, rfl, rfl, vr7, ?_⟩
          exact ⟨_, rfl, sm_put S13 nra (S35.trans (sA.trans ((Sm.same s6).trans s7))) Sm.upd, (w7.put (Ne.symm raw)).mono (by omega), fun z => absurd z (by omega)⟩
        · exact ⟨_, rfl, sm3.trans (Sm.same s6), wl3.same s6, fun z => ⟨((al3 (by omega)).1).trans (Sm.same s6), (al3 (by omega)).2.same s6⟩⟩
    rintro σ4 H4' ⟨v4, rfl, sm4, wl4, al4⟩
    repeat fail
    exact q way _ y0 (by omega) sm4 wl4
end
end Pz
namespace Pz
open PySem L2
open PyProof.Rows (envOfC)
/-! ### plain data -/
theorem plain_dStrs {ss : List Str} (h : ∀ x ∈ ss, isNm x = true) : plain (dStrs ss) = true := by
  simp only [dStrs, plain]
  exact plainAll_of fun x hx => by obtain ⟨s, hs, rfl⟩ := List.mem_map.mp hx; simp only [plain]; exact nm_ok (h s hs)
theorem depth_dStrs (ss : List Str) : (dStrs ss).depth ≤ 1 := by
  simp only [dStrs, PyData.depth]
  have := depthAll_le (n := 0) (xs := ss.map PyData.str) fun x hx => by obtain ⟨i, _, rfl⟩ := List.mem_map.mp hx; simp [PyData.depth]
  omega
theorem plain_dRows (rows : List (List Int)) : plain (dRows rows) = true := by
  simp only [dRows, plain]
  exact plainAll_of fun x hx => by obtain ⟨i, _, rfl⟩ := List.mem_map.mp hx; exact plain_dInts i
theorem depth_dRows (rows : List (List Int)) : (dRows rows).depth ≤ 2 := by
  simp only [dRows, PyData.depth]
  have := depthAll_le (n := 1) (xs := rows.map dInts) fun x hx => by obtain ⟨i, _, rfl⟩ := List.mem_map.mp hx; exact depth_dInts i
  omega
end Pz
namespace Pz
open PySem L2
open PyProof.Rows (envOfC)
/-! ### Plan.__eq__ -/
structure EqOwn (P : Program) (w : World) (K : PySem.W.Frag) (mg : Str → Option Value) (base : Heap) (k : Nat) (C : Addr) (sp : Sp) : Prop where
  ex : ∃ f fd, PySem.W.findIn K (.ref C) "__eq__" = some (some (.ref f)) ∧ PySem.W.isFn K (.ref f) = true ∧ Binds K fd ["self", "other"] [] ∧ FnOk P w K mg base CX0 k f fd ["self", "other"] sp
/-- x == y, two instances of the class with the text's own == -/
def rOwnEq (C : Addr) (sp : Sp) : R2 := fun x y H Q => ∃ a b dx dy fs gs, x = .ref a ∧ y = .ref b ∧ H a = some (.ins C dx fs) ∧ H b = some (.ins C dy gs) ∧ sp [.ref a, .ref b] H (fun v H' => (∃ t, v = .bl t) ∧ Q v H') E0
theorem op_ownEq {X : Cx} {k : Nat} {C : Addr} {sp : Sp} (F : EqOwn X.prog X.w X.K X.mg X.base k C sp) (hr : Room k X.A) : OpR X (compareOp .Eq) (rOwnEq C sp) := by
  obtain ⟨f, fd, hs, hf, hb, F⟩ := F.ex
  intro pins s σ H x y v u Q I rx ry hq
  obtain ⟨a, b, dx, dy, fs, gs, rfl, rfl, ha, hb', hsp⟩ := hq
  cases rx
  cases ry
  obtain ⟨mA, J, _⟩ := ins_get I.hok ha
  obtain ⟨mB, J', _⟩ := ins_get I.hok hb'
  obtain ⟨od, J, _⟩ := J.look
  obtain ⟨od', J', _⟩ := J'.look
  obtain ⟨m, hF⟩ := I.fr
  show wpAny (model X.prog X.w) X.A (richCompare .Eq (.ref a) (.ref b)) (EP X pins σ Q) X.xe s
  refine PySem.W.cmp_K (op := .Eq) (tb := .ref C) hr.units0 hF I.ok.mod.kin J J'.type (by simp [PySem.W.notFirst]) hs hf ?_
  have hl := F.len _ _ _ _ hsp
  have r2 : Vals [V.ref a, V.ref b] [Value.ref a, Value.ref b] := .cons rfl (.cons rfl .nil)
  refine wpAny_call (codeAny_mono (F.run X.A X.stack s H ⟨[.ref a, .ref b], []⟩ [.ref a, .ref b] [.ref a, .ref b] _ E0 hr I.env0 (by
    have := hb s [.ref a, .ref b] I.kIn (by simpa using hl)
    simpa using this) r2 hsp) fun r s' hq => ?_)
  cases r with
  | error e => exact pass0 pins σ H s e s' I hq
  | ok fl =>
    cases fl with
    | ret w =>
      obtain ⟨z, H', I', rz, ⟨t, ez⟩, q⟩ := I.after hq
      subst ez
      cases rz
      exact ⟨.bl t, H', I', rfl, q⟩
    | next => exact False.elim hq
    | brk => exact False.elim hq
    | cont => exact False.elim hq
/-! what it answers -/
def sameP (cols cols' : List Str) (kds kds' : List KD) (chk chk' : List (List Int)) : Bool := decide (cols = cols') && (PyData.eqv (.list (kds.map dKind)) (.list (kds'.map dKind)) && decide (chk = chk'))
theorem plain_kinds {kds : List KD} (h : ∀ k ∈ kds, BK k) : plain (.list (kds.map dKind)) = true := by
  simp only [plain]
  refine plainAll_of fun x hx => ?_
  obtain ⟨k, hk, rfl⟩ := List.mem_map.mp hx
  have b := h k hk
  have hs : plain (.list (k.steps.map dStep)) = true := by
    simp only [plain]
    refine plainAll_of fun y hy => ?_
    obtain ⟨s, hs, rfl⟩ := List.mem_map.mp hy
    simp [dStep, plain, plainAll, nm_ok (b.st s hs).1]
  simp only [dKind, plain, plainAll, Bool.and_eq_true]
  exact ⟨by simpa [plain] using nm_ok b.nm, plain_dRows _, by simpa [plain] using hs, trivial⟩
theorem rows_inj {a b : List (List Int)} (h : dRows a = dRows b) : a = b := by
  have h' : a.map dInts = b.map dInts := by simpa [dRows] using h
  refine (List.map_inj_right (f := dInts) fun x y e => ?_).mp h'
  have e' : x.map PyData.int = y.map PyData.int := by simpa [dInts] using e
  exact (List.map_inj_right (f := PyData.int) fun i j e => by simpa using e).mp e'
theorem strs_inj {a b : List Str} (h : dStrs a = dStrs b) : a = b := by
  have h' : a.map PyData.str = b.map PyData.str := by simpa [dStrs] using h
  exact (List.map_inj_right (f := PyData.str) fun i j e => by simpa using e).mp h'
theorem eqv_dec {d e : PyData} (hd : plain d = true) (he : plain e = true) {q : Prop} [Decidable q] (h : d = e ↔ q) : PyData.eqv d e = decide q := by
  by_cases z : q
  · rw [decide_eq_true z]; exact eqv_eq hd he (h.mpr z)
  · rw [decide_eq_false z]; exact eqv_ne hd he fun y => z (h.mp y)
def spEqP (C : Addr) : Sp := fun vs H Q _ => ∃ (F : Hp) (p p' : Addr) (cols cols' : List Str) (kds kds' : List KD) (chk chk' : List (List Int)), vs = [.ref p, .ref p'] ∧ Same F H ∧ PlanAt C F p cols kds chk ∧ PlanAt C F p' cols' kds' chk' ∧ BD cols kds chk ∧ BD cols' kds' chk' ∧
  Q (.bl (sameP cols cols' kds kds' chk chk')) H
section
variable {P : Program} {w : World} {K : PySem.W.Frag} {mg : Str → Option Value} {base : Heap} {C : Addr}
theorem ok_eqF (L : PlanT K mg C) (M : PlanM K mg C) {f : Addr} {fd : FuncData} (F : Fun K "__eq__" "Plan.__eq__" s_Planeq f fd) : FnOk P w K mg base CX0 1 f fd ["self", "other"] (spEqP C) := by
  refine F.ok sc_Planeq (fun vs H Q E h => ?_) (fun cdv A outer s H vs Q E hr h => ?_)
  · obtain ⟨_, _, _, _, _, _, _, _, _, rfl, _⟩ := h; rfl
  · obtain ⟨F, p, p', cols, cols', kds, kds', chk, chk', rfl, sF, ⟨dx, c, k, hh, h1, h2, h3, h4⟩, ⟨dx', c', k', hh', h1', h2', h3', h4'⟩, B, B', q⟩ := h
    refine ⟨_, (pss_cons (ps_if (pt_not (pt_val (pe_callB call_isi (by rfl) M.z_isinstance (by decide +kernel) (pa_cons (pv 1) (pa_cons (pe_glob (v := .ref C) rfl L.mgP rfl) pa_nil))))) (pss_one (ps_ret pe_bl)) pss_nil) (pss_one (ps_ret (pe_and (pe_cmpR (op_eqD hr.units) (pe_fld (pv 0) (by rfl)) (pe_fld (pv 1) (by rfl)) (nomark _)) (pe_and (pe_cmpR (op_eqD hr.units) (pe_fld (pv 0) (by rfl)) (pe_fld (pv 1) (by rfl)) (nomark _)) (pe_one (pe_cmpR (op_eqD hr.units) (pe_fld (pv 0) (by rfl)) (pe_fld (pv 1) (by rfl)) (nomark _)))))))), ?_⟩
    refine ⟨_, rfl, _, _, .ref C, .ref C, true, rfl, .own C, .base (.ins (sF _ _ h1') L.cl M.c1 M.c2 M.c3 M.c4), by simp [PySem.W.kitOne], _, rfl, ?_⟩
    refine ite2 (fun c => absurd c (by simp)) (fun _ => ?_)
    have pc : ∀ {cs : List Str}, (∀ c ∈ cs, isNm c = true) → plain (dStrs cs) = true := fun h => plain_dStrs h
    refine ⟨_, rfl, p, C, dx, _, _, rfl, sF _ _ h1, L.cl, L.nC, pf3_c _ _ _, _, rfl, p', C, dx', _, _, rfl, sF _ _ h1', L.cl, L.nC, pf3_c _ _ _, dStrs cols, dStrs cols', R.dpp (R_dStrs.mpr ⟨c, rfl, h2⟩) sF (pc B.nm), R.dpp (R_dStrs.mpr ⟨c', rfl, h2'⟩) sF (pc B'.nm), shaped_of (pc B.nm) (Nat.le_trans (depth_dStrs _) (by decide)), shaped_of (pc B'.nm) (Nat.le_trans (depth_dStrs _) (by decide)), _, rfl, ?_⟩
    have e1 : PyData.eqv (dStrs cols) (dStrs cols') = decide (cols = cols') := eqv_dec (pc B.nm) (pc B'.nm) ⟨strs_inj, fun z => by rw [z]⟩
    have e3 : PyData.eqv (dRows chk) (dRows chk') = decide (chk = chk') := eqv_dec (plain_dRows _) (plain_dRows _) ⟨rows_inj, fun z => by rw [z]⟩
    have dk : ∀ {ks : List KD}, (∀ k ∈ ks, BK k) → ks.length ≤ 20 → SeqAt.shaped (.list (ks.map dKind)) = true := fun h l => shaped_of (plain_kinds h) (Nat.le_trans (shw_kinds h l).dp (by decide))
    unfold sameP at q
    rw [e1]
    refine ite2 (fun c1 => ?_) (fun c1 => ?_)
    · rw [c1, Bool.true_and] at q
      refine ⟨_, rfl, p, C, dx, _, _, rfl, sF _ _ h1, L.cl, L.nK, pf3_k _ _ _, _, rfl, p', C, dx', _, _, rfl, sF _ _ h1', L.cl, L.nK, pf3_k _ _ _, .list (kds.map dKind), .list (kds'.map dKind), R.dpp h3 sF (plain_kinds B.k), R.dpp h3' sF (plain_kinds B'.k), dk B.k B.kl, dk B'.k B'.kl, _, rfl, ?_⟩
      refine ite2 (fun c2 => ?_) (fun c2 => ?_)
      · rw [c2, Bool.true_and] at q
        refine ⟨_, rfl, p, C, dx, _, _, rfl, sF _ _ h1, L.cl, L.nH, pf3_h _ _ _, _, rfl, p', C, dx', _, _, rfl, sF _ _ h1', L.cl, L.nH, pf3_h _ _ _, dRows chk, dRows chk', R.dpp h4 sF (plain_dRows _), R.dpp h4' sF (plain_dRows _), shaped_of (plain_dRows _) (Nat.le_trans (depth_dRows _) (by decide)), shaped_of (plain_dRows _) (Nat.le_trans (depth_dRows _) (by decide)), ?_⟩
        rw [e3]; exact q
      · rw [Bool.not_eq_true] at c2
        rw [c2, Bool.false_and] at q
        exact q
    · rw [Bool.not_eq_true] at c1
      rw [c1, Bool.false_and] at q
      exact q
theorem ok_Plan_eq (L : PlanT K mg C) (M : PlanM K mg C) : EqOwn P w K mg base 1 C (spEqP C) := by
  obtain ⟨f, fd, hs, hf, F, hb⟩ := M.m_eq
  exact ⟨f, fd, hs, hf, hb, ok_eqF L M F⟩
end
end Pz
namespace Pz
open PySem L2
open PyProof.Rows (envOfC)
/-! ### _law_right of k39 -/
theorem pay_noW (once guarded : Bool) : noW (dStrs payCols) = true ∧ noW (.list ((payKds once).map dKind)) = true ∧ noW (dRows (payRows guarded)) = true := by
  cases once <;> cases guarded <;> decide +kernel
theorem pay_same {i j : Int} (i0 : 0 ≤ i) (i1 : i < 4) (j0 : 0 ≤ j) (j1 : j < 4) : sameP payCols payCols (payKds (decide (i % 2 = 0))) (payKds (decide (j % 2 = 0))) (payRows (decide (i < 2))) (payRows (decide (j < 2))) = decide (i = j) := by
  have e : i = 0 ∨ i = 1 ∨ i = 2 ∨ i = 3 := by omega
  have e2 : j = 0 ∨ j = 1 ∨ j = 2 ∨ j = 3 := by omega
  rcases e with rfl | rfl | rfl | rfl <;> rcases e2 with rfl | rfl | rfl | rfl <;> decide +kernel
theorem x_ownEq {C p p' : Addr} {F H : Hp} {Q : VK} {cols cols' : List Str} {kds kds' : List KD} {chk chk' : List (List Int)} (sF : Same F H) (PA : PlanAt C F p cols kds chk) (PB : PlanAt C F p' cols' kds' chk') (B : BD cols kds chk) (B' : BD cols' kds' chk') (q : Q (.bl (sameP cols cols' kds kds' chk chk')) H) : rOwnEq C (spEqP C) (.ref p) (.ref p') H Q := by
  obtain ⟨dx, c, k, hh, e, r⟩ := PA
  obtain ⟨dx', c', k', hh', e', r'⟩ := PB
  exact ⟨p, p', dx, dx', _, _, rfl, rfl, sF _ _ e, sF _ _ e', F, p, p', cols, cols', kds, kds', chk, chk', rfl, sF, ⟨dx, c, k, hh, e, r⟩, ⟨dx', c', k', hh', e', r'⟩, B, B', ⟨_, rfl⟩, q⟩
theorem R_bl2 {F : Hp} {a : Addr} {b c : Bool} (h : F a = some (.lst [.bl b, .bl c])) : R F (.list [.bool b, .bool c]) (.ref a) := by
  simp only [R, RA]
  exact ⟨a, _, rfl, h, _, _, rfl, rfl, _, _, rfl, rfl, rfl⟩
theorem fit_bl2 (b c : Bool) : (PyData.list [.bool b, .bool c]).showable = true ∧ (PyData.list [.bool b, .bool c]).shown.length ≤ sizeLine ∧ (PyData.list [.bool b, .bool c]).depth ≤ 100 := by
  cases b <;> cases c <;> decide +kernel
theorem x_make {C : Addr} {sp : Sp} {E : XK} {t : TA} {σ : L2.St} {H : Hp} {Q : VK} (h : t σ H fun vs H1 => ∀ x dx, H1 x = none → H1 dx = none → dx ≠ x → sp (.ref x :: vs) (upd (upd H1 dx (.own x)) x (.ins C dx [])) (fun v H2 => v = .non ∧ Q (.ref x) H2) E) : tMake C sp [] E t σ H Q := by
  have e : (fun vs H1 => ∀ x dx, H1 x = none → H1 dx = none → dx ≠ x → sp (.ref x :: (vs ++ [])) (upd (upd H1 dx (.own x)) x (.ins C dx [])) (fun v H2 => v = .non ∧ Q (.ref x) H2) E) = fun vs H1 => ∀ x dx, H1 x = none → H1 dx = none → dx ≠ x → sp (.ref x :: vs) (upd (upd H1 dx (.own x)) x (.ins C dx [])) (fun v H2 => v = .non ∧ Q (.ref x) H2) E := by
    funext vs H1; simp only [List.append_nil]
  show t σ H (fun vs H1 => ∀ x dx, H1 x = none → H1 dx = none → dx ≠ x → sp (.ref x :: (vs ++ [])) (upd (upd H1 dx (.own x)) x (.ins C dx [])) (fun v H2 => v = .non ∧ Q (.ref x) H2) E)
  rw [e]; exact h
def spRight39 : Sp := fun vs H Q _ => ∃ (w : Addr), vs = [.ref w] ∧ Wl H w 1 ∧ ∀ H' : Hp, Sm w H H' → Q (.bl true) H'

section
variable {P : Program} {w : World} {K : PySem.W.Frag} {mg : Str → Option Value} {base : Heap} {C f : Addr} {fd : FuncData}
theorem ok_law_right (TT : Txt2 K mg) (L : PlanT K mg C) (M : PlanM K mg C) (hm : mg "payments" = some (.ref f)) (D : FunPay K f fd) (hs : ∃ o, base.get? sysModules = some o) : FnG P w K mg base 9 "_law_right" ["well"] spRight39 := by
  have T := TT.t
  have G_law_pick := ok_law_pick (P := P) (w := w) (base := base) T
  have G_law_due := ok_law_due (P := P) (w := w) (base := base) TT
  have G_law_rows := ok_law_rows (P := P) (w := w) (base := base) TT
  have G_law_made := ok_law_made (P := P) (w := w) (base := base) TT L hm D
  have G_law_shown := ok_law_shown (P := P) (w := w) (base := base) TT L hs
  have G_law_spoilt := ok_law_spoilt (P := P) (w := w) (base := base) TT L
  have G_Planinit := ok_Plan_init (P := P) (w := w) (base := base) T L
  have G_Planeq := ok_Plan_eq (P := P) (w := w) (base := base) L M
  refine TT.d_law_right.fnG sc_law_right (fun vs H Q E h => ?_) (fun cdv A outer f s H vs Q hg hr h => ?_)
  · obtain ⟨_, rfl, _⟩ := h; rfl
  · obtain ⟨w, rfl, hw, q⟩ := h
    refine ⟨_, (pss_cons (ps_set (i := 1) sc_law_right.nd rfl (Or.inl rfl) (pe_fn G_law_pick (hr.mono (by decide)) (by rfl) (pa_cons (pv 0) (pa_cons pe_int pa_nil)))) (pss_cons (ps_set (i := 2) sc_law_right.nd rfl (Or.inl rfl) (pe_fn G_law_due (hr.mono (by decide)) (by rfl) (pa_cons (pe_cmpR op_eq (pe_op op_mod (pv 1) pe_int) pe_int (nomark _)) (pa_cons (pe_cmpR op_lt (pv 1) pe_int (nomark _)) pa_nil)))) (pss_cons (ps_set (i := 3) sc_law_right.nd rfl (Or.inl rfl) (pe_callB (cr_repr hg hr hs) (by rfl) T.z_repr (by decide +kernel) (pa_cons (pe_fn G_law_rows (hr.mono (by decide)) (by rfl) (pa_cons (pv 2) pa_nil)) pa_nil))) (pss_cons (ps_set (i := 4) sc_law_right.nd rfl (Or.inl rfl) (pe_fn G_law_made (hr.mono (by decide)) (by rfl) (pa_cons (pe_cmpR op_eq (pe_op op_mod (pv 1) pe_int) pe_int (nomark _)) (pa_cons (pe_cmpR op_lt (pv 1) pe_int (nomark _)) (pa_cons (pe_fn G_law_pick (hr.mono (by decide)) (by rfl) (pa_cons (pv 0) (pa_cons pe_int pa_nil))) pa_nil))))) (C8.pss_cut (ps_if (pt_cmpR op_ne (pe_fnG G_law_shown hg (hr.mono (by decide)) (by rfl) (pa_cons (pv 4) (pa_cons (pe_fn G_law_pick (hr.mono (by decide)) (by rfl) (pa_cons (pv 0) (pa_cons pe_int pa_nil))) pa_nil))) (pv 3) (nomark _)) (pss_one (ps_ret pe_bl)) pss_nil) (C8.pss_cut (ps_if (pt_cut (PW.pt (pw_or (pt_cmpR op_gt (pe_fn G_law_spoilt (hr.mono (by decide)) (by rfl) (pa_cons (pv 4) (pa_cons (pv 0) pa_nil))) pe_int (nomark _)) (pw_or1 (pt_cmpR op_ne (pe_fnG G_law_shown hg (hr.mono (by decide)) (by rfl) (pa_cons (pv 4) (pa_cons (pe_fn G_law_pick (hr.mono (by decide)) (by rfl) (pa_cons (pv 0) (pa_cons pe_int pa_nil))) pa_nil))) (pv 3) (nomark _)))))) (pss_one (ps_ret pe_bl)) pss_nil) (pss_cons (ps_set (i := 5) sc_law_right.nd rfl (Or.inl rfl) (pe_fn G_law_pick (hr.mono (by decide)) (by rfl) (pa_cons (pv 0) (pa_cons pe_int pa_nil)))) (pss_cons (ps_set (i := 6) sc_law_right.nd rfl (Or.inl rfl) (pe_fn G_law_made (hr.mono (by decide)) (by rfl) (pa_cons (pe_cmpR op_eq (pe_op op_mod (pv 5) pe_int) pe_int (nomark _)) (pa_cons (pe_cmpR op_lt (pv 5) pe_int (nomark _)) (pa_cons (pe_fn G_law_pick (hr.mono (by decide)) (by rfl) (pa_cons (pv 0) (pa_cons pe_int pa_nil))) pa_nil))))) (C8.pss_cut (ps_if (pt_cmpR op_ne (pe_callB (cr_repr hg hr hs) (by rfl) T.z_repr (by decide +kernel) (pa_cons (pe_lst (pa_cons (pe_cmpR (op_ownEq G_Planeq (hr.mono (by decide))) (pv 4) (pv 6) (nomark _)) (pa_cons (pe_cmpR (op_ownEq G_Planeq (hr.mono (by decide))) (pv 6) (pv 4) (nomark _)) pa_nil))) pa_nil)) (pe_callB (cr_repr hg hr hs) (by rfl) T.z_repr (by decide +kernel) (pa_cons (pe_lst (pa_cons (pe_cmpR op_eq (pv 1) (pv 5) (nomark _)) (pa_cons (pe_cmpR op_eq (pv 1) (pv 5) (nomark _)) pa_nil))) pa_nil)) (nomark _)) (pss_one (ps_ret pe_bl)) pss_nil) (C8.pss_cut (ps_if (pt_cmpR op_ne (pe_fnG G_law_shown hg (hr.mono (by decide)) (by rfl) (pa_cons (pv 6) (pa_cons pe_int pa_nil))) (pe_callB (cr_repr hg hr hs) (by rfl) T.z_repr (by decide +kernel) (pa_cons (pe_fn G_law_rows (hr.mono (by decide)) (by rfl) (pa_cons (pe_fn G_law_due (hr.mono (by decide)) (by rfl) (pa_cons (pe_cmpR op_eq (pe_op op_mod (pv 5) pe_int) pe_int (nomark _)) (pa_cons (pe_cmpR op_lt (pv 5) pe_int (nomark _)) pa_nil))) pa_nil)) pa_nil)) (nomark _)) (pss_one (ps_ret pe_bl)) pss_nil) (pss_cons (ps_set (i := 7) sc_law_right.nd rfl (Or.inl rfl) (pe_mk G_Planinit (hr.mono (by decide)) (by rfl) (pa_cons (pe_ix ix_tup (pv 2) pe_int (fun _ _ => rfl)) (pa_cons (pe_ix ix_tup (pv 2) pe_int (fun _ _ => rfl)) (pa_cons (pe_ix ix_tup (pv 2) pe_int (fun _ _ => rfl)) pa_nil))))) (pss_one (ps_ret (pe_and (pe_cmpR op_isBl (pe_cmpR (op_ownEq G_Planeq (hr.mono (by decide))) (pv 7) (pv 4) (nomark _)) pe_bl (nomark _)) (pe_one (pe_cmpR op_isBl (pe_cmpR (op_ownEq G_Planeq (hr.mono (by decide))) (pv 4) (pv 7) (nomark _)) pe_bl (nomark _))))))))))))))))), ?_⟩
    repeat fail
    intro ch H1 c0 c1 s1 w1
    repeat fail
    refine x_mod (by decide) ?_
    repeat fail
    refine ⟨decide (ch % 2 = 0), decide (ch < 2), rfl, fun th hc hk hh H2 xs s2 v2 P2 => ?_⟩
    repeat fail
    refine ⟨th, hc, hk, hh, _, _, xs, rfl, v2, P2, fun t3 H3 s3 R3 => ?_⟩
    have f3 := pay_fits (decide (ch % 2 = 0)) (decide (ch < 2))
    obtain ⟨n1, n2, n3⟩ := pay_noW (decide (ch % 2 = 0)) (decide (ch < 2))
    have w3 := (w1.same s2).same s3
    have P3 := (P2.mono s3).out w3
    have tw : th ≠ w := fun z => by have := s3 _ _ v2; obtain ⟨a, b, c, e, _⟩ := w3; rw [z, e] at this; cases this
    have v3 : (hid w H3) th = some (.tup [.ref hc, .ref hk, .ref hh]) := by rw [hid_ne tw]; exact s3 _ _ v2
    have S03 : Sm w H H3 := s1.trans (Sm.same (s2.trans s3))
    repeat fail
    refine ⟨_, _, H3, rfl, Same.refl _, R3, f3.1, f3.2.1, f3.2.2, ?_⟩
    clear R3 P2 v2 s2 w1 s1
    obtain ⟨z, hz⟩ : ∃ z, z = (dPay (decide (ch % 2 = 0)) (decide (ch < 2))).shown := ⟨_, rfl⟩
    rw [← hz]
    repeat fail
    refine x_mod (by decide) ?_
    repeat fail
    intro wy H4 y0 y1 s4 w4
    refine ⟨_, _, wy, rfl, fun p H5 np s5 PA5 => ?_⟩
    have w5 := w4.same s5
    have S35 : Sm w H3 H5 := s4.trans (Sm.same s5)
    have PAh := PA5.out w5 n1 n2 n3
    clear PA5 w4
    repeat fail
    refine x_cut (fun σ' H' => σ' = [some (.ref w), some (.int ch), some (.ref th), some (.str z), some (.ref p), none, none, none] ∧ Sm w H5 H' ∧ ∃ N, N ≤ 1000 ∧ Wl H' w N) ?_ ?_
    · repeat fail
      intro wy2 H6 y0' y1' s6 w6
      refine ⟨hid w H5, p, wy2, _, _, rfl, (hid_mono s6).trans hid_sub, PAh, fun H7 s7 => ?_⟩
      rw [← hz]
      repeat fail
      refine ite2 (fun cc => absurd cc (by simp)) (fun _ => ?_)
      repeat fail
      exact ⟨rfl, s6.trans (Sm.same s7), _, by omega, w6.same s7⟩
    rintro σ' H7 ⟨rfl, S57, N7, hN7, w7⟩
    refine x_cut (fun σ' H' => σ' = [some (.ref w), some (.int ch), some (.ref th), some (.str z), some (.ref p), none, none, none] ∧ Sm w H5 H' ∧ ∃ N, N ≤ 2000 ∧ Wl H' w N) ?_ ?_
    · repeat fail
      refine x_midT (fun d H' => d = false ∧ Sm w H5 H' ∧ ∃ N, N ≤ 2000 ∧ Wl H' w N) ?_ ?_
      · repeat fail
        refine ⟨hid w H5, p, w, N7, _, _, rfl, (hid_mono S57).trans hid_sub, hid_at, PAh, w7, by omega, fun r H8 r0 r4 s8 w8 => ?_⟩
        repeat fail
        refine ite2 (fun cc => absurd (of_decide_eq_true cc) (by omega)) (fun _ => ?_)
        repeat fail
        intro wy3 H9 y0'' y1'' s9 w9
        refine ⟨hid w H5, p, wy3, _, _, rfl, (hid_mono (S57.trans (s8.trans s9))).trans hid_sub, PAh, fun H10 s10 => ?_⟩
        rw [← hz]
        repeat fail
        exact ⟨by simp, S57.trans (s8.trans (s9.trans (Sm.same s10))), _, by omega, w9.same s10⟩
      · rintro d H8 ⟨rfl, S58, w8⟩
        refine ite2 (fun cc => absurd cc (by simp)) (fun _ => ?_)
        repeat fail
        exact ⟨rfl, S58, w8⟩
    rintro σ' H10 ⟨rfl, S510, N, hN, w10⟩
    repeat fail
    intro ot H11 o0 o1 s11 w11
    repeat fail
    refine x_mod (by decide) ?_
    repeat fail
    intro wy3 H12 z0 z1 s12 w12
    refine ⟨_, _, wy3, rfl, fun p2 H13 np2 s13 PA13 => ?_⟩
    have f4 := pay_fits (decide (ot % 2 = 0)) (decide (ot < 2))
    obtain ⟨m1, m2, m3⟩ := pay_noW (decide (ot % 2 = 0)) (decide (ot < 2))
    have w13 := w12.same s13
    have PBh := PA13.out w13 m1 m2 m3
    have S513 : Sm w H5 H13 := S510.trans (s11.trans (s12.trans (Sm.same s13)))
    have PA13' := PAh.mono (hid_mono S513)
    have b1 := pay_bd (decide (ch % 2 = 0)) (decide (ch < 2))
    have b2 := pay_bd (decide (ot % 2 = 0)) (decide (ot < 2))
    repeat fail
    refine x_cut (fun σ' H' => σ' = [some (.ref w), some (.int ch), some (.ref th), some (.str z), some (.ref p), some (.int ot), some (.ref p2), none] ∧ Same H13 H') ?_ ?_
    · repeat fail
      have sF := (hid_sub : Same (hid w H13) H13)
      refine x_ownEq sF PA13' PBh b1 b2 ?_
      repeat fail
      refine x_ownEq sF PBh PA13' b2 b1 ?_
      rw [pay_same c0 c1 o0 o1, pay_same o0 o1 c0 c1, show decide (ot = ch) = decide (ch = ot) from decide_eq_decide.mpr eq_comm]
      obtain ⟨y1, y2, y3⟩ := fit_bl2 (decide (ch = ot)) (decide (ch = ot))
      obtain ⟨zz, hzz⟩ : ∃ zz, zz = (PyData.list [.bool (decide (ch = ot)), .bool (decide (ch = ot))]).shown := ⟨_, rfl⟩
      repeat fail
      rename_i l1 H14 nl1 s14 v14
      refine ⟨_, _, H14, rfl, Same.refl _, R_bl2 v14, y1, y2, y3, ?_⟩
      rw [← hzz]
      repeat fail
      rename_i l2 H15 nl2 s15 v15
      refine ⟨_, _, H15, rfl, Same.refl _, R_bl2 v15, y1, y2, y3, ?_⟩
      rw [← hzz]
      repeat fail
      refine ite2 (fun cc => absurd cc (by simp)) (fun _ => ?_)
      repeat fail
      exact ⟨rfl, s14.trans s15⟩
    rintro σ' H14 ⟨rfl, s14⟩
    refine x_cut (fun σ' H' => σ' = [some (.ref w), some (.int ch), some (.ref th), some (.str z), some (.ref p), some (.int ot), some (.ref p2), none] ∧ Same H13 H') ?_ ?_
    · repeat fail
      obtain ⟨zz, hzz⟩ : ∃ zz, zz = (dPay (decide (ot % 2 = 0)) (decide (ot < 2))).shown := ⟨_, rfl⟩
      refine ⟨hid w H13, p2, 0, _, _, rfl, hid_sub.trans s14, PBh, fun H15 s15 => ?_⟩
      rw [← hzz]
      repeat fail
      refine x_mod (by decide) ?_
      repeat fail
      refine ⟨decide (ot % 2 = 0), decide (ot < 2), rfl, fun th2 hc2 hk2 hh2 H16 xs2 s16 v16 P16 => ?_⟩
      repeat fail
      refine ⟨th2, hc2, hk2, hh2, _, _, xs2, rfl, v16, P16, fun t17 H17 s17 R17 => ?_⟩
      repeat fail
      refine ⟨_, _, H17, rfl, Same.refl _, R17, f4.1, f4.2.1, f4.2.2, ?_⟩
      rw [← hzz]
      repeat fail
      refine ite2 (fun cc => absurd cc (by simp)) (fun _ => ?_)
      repeat fail
      exact ⟨rfl, s14.trans (s15.trans (s16.trans s17))⟩
    rintro σ' H15 ⟨rfl, s15⟩
    have S315 : Sm w H3 H15 := S35.trans (S513.trans (Sm.same s15))
    have h315 : Same (hid w H3) H15 := (hid_mono S315).trans hid_sub
    have v15 := h315 _ _ v3
    have P15 := P3.mono h315
    refine x_seq (x_asg (x_make ?_))
    repeat fail
    intro x dx nx ndx nn
    refine ⟨H15, x, dx, hc, hk, hh, payCols, payKds _, payChs _, H15, xs, rfl, rfl, nx, ndx, nn, P15.c_, P15.k_, P15.ks, P15.h_, Same.refl _, pay_good _ _, fun H' F' s' g' PC => ⟨rfl, ?_⟩⟩
    have PC' : PlanAt C H' x payCols (payKds (decide (ch % 2 = 0))) (payRows (decide (ch < 2))) := PC.mono g'.sub
    have PA' : PlanAt C H' p payCols (payKds (decide (ch % 2 = 0))) (payRows (decide (ch < 2))) := PA13'.mono ((hid_sub.trans s15).trans s')
    have es := pay_same c0 c1 c0 c1
    rw [decide_eq_true (rfl : ch = ch)] at es
    repeat fail
    refine x_ownEq (Same.refl _) PC' PA' b1 b1 ?_
    rw [es]
    repeat fail
    refine ⟨true, true, rfl, rfl, _, rfl, ?_⟩
    refine ite2 (fun _ => ?_) (fun cc => absurd (decide_eq_true rfl) cc)
    repeat fail
    refine x_ownEq (Same.refl _) PA' PC' b1 b1 ?_
    rw [es]
    repeat fail
    refine ⟨true, true, rfl, rfl, ?_⟩
    exact q H' ((S03.trans S315).trans (Sm.same s'))
end
end Pz
namespace Pz
open PySem L2
open PyProof.Rows (envOfC)
/-! ### law -/
def spLaw (K : PySem.W.Frag) : Sp := fun vs H Q _ => ∃ (a : Addr) (ns : List Int), vs = [.ref a] ∧ ns.length ≤ 63 ∧ SqL K H a (ns.map V.int) ∧ ∀ H' : Hp, Q (.bl true) H'
theorem cut_ints (ns : List Int) (lo hi : Option Int) : ∃ ms : List Int, cutV (ns.map V.int) lo hi = ms.map V.int ∧ ms.length ≤ ns.length := by
  refine ⟨(ns.drop (HT.sIx (ns.map V.int).length 0 lo)).take (HT.sIx (ns.map V.int).length (ns.map V.int).length hi - HT.sIx (ns.map V.int).length 0 lo), ?_, ?_⟩
  · unfold cutV
    rw [List.map_take, List.map_drop]
  · rw [List.length_take, List.length_drop]; omega
theorem hasDict_ints (ns : List Int) : PyData.hasDictAll (ns.map PyData.int) = false := by
  induction ns with
  | nil => simp [PyData.hasDictAll]
  | cons n ns ih => simp only [List.map_cons, PyData.hasDictAll, PyData.hasDict, ih]; rfl
section
variable {P : Program} {w : World} {K : PySem.W.Frag} {mg : Str → Option Value} {base : Heap} {C f : Addr} {fd : FuncData}
theorem ok_law (TT : Txt2 K mg) (L : PlanT K mg C) (M : PlanM K mg C) (hm : mg "payments" = some (.ref f)) (D : FunPay K f fd) (hs : ∃ o, base.get? sysModules = some o) : FnG P w K mg base 10 "law" ["script"] (spLaw K) := by
  have T := TT.t
  have G_law_well := ok_law_well (P := P) (w := w) (base := base) T
  have G_law_right := ok_law_right (P := P) (w := w) (base := base) TT L M hm D hs
  refine TT.d_law.fnG sc_law (fun vs H Q E h => ?_) (fun cdv A outer f s H vs Q hg hr h => ?_)
  · obtain ⟨_, _, rfl, _⟩ := h; rfl
  · obtain ⟨a, ns, rfl, nl, hS, q⟩ := h
    refine ⟨_, (pss_cons (ps_set (i := 1) sc_law.nd rfl (Or.inl rfl) (pe_op op_cat (pe_slice sl_list (pv 0) po_none (po_some pe_int)) (pe_op op_rep (pe_lst (pa_cons pe_int pa_nil)) (pe_callTy call_int1 (by rfl) T.z_int (by decide +kernel) (pa_cons (pe_cmpR (op_eqD hr.units) (pv 0) (pe_lst pa_nil) (nomark _)) pa_nil))))) (pss_cons (ps_for PassesOwn.never rfl (pi_range1 rfl T.z_range (pa_cons (pe_callB call_len_seq (by rfl) T.z_len (by decide +kernel) (pa_cons (pv 1) pa_nil)) pa_nil)) (pg_name (i := 2) sc_law.nd rfl (Or.inl rfl)) (pss_one (ps_if (pt_not (pt_val (pe_fnG G_law_right hg (hr.mono (by decide)) (by rfl) (pa_cons (pe_fn G_law_well (hr.mono (by decide)) (by rfl) (pa_cons (pe_ix ix_list (pv 1) (pv 2) (fun _ _ => rfl)) (pa_cons (pv 2) pa_nil))) pa_nil)))) (pss_one (ps_ret pe_bl)) pss_nil))) (pss_one (ps_ret pe_bl)))), ?_⟩
    obtain ⟨ms, hms, ml⟩ := cut_ints ns none (some 40)
    refine ⟨_, rfl, _, rfl, a, _, rfl, hS, fun p1 hp1 => ?_⟩
    rw [hms]
    have s1 := same_upd (o := .lst (ms.map V.int)) hp1
    refine ⟨(show 1 ≤ sizeLine by decide), fun p2 hp2 => ?_⟩
    have s2 := same_upd (o := .lst [.int 0]) hp2
    refine ⟨_, rfl, (by decide), fun p3 hp3 => ?_⟩
    have s3 := same_upd (o := .lst []) hp3
    have hS3 := s3.seq (s2.seq (s1.seq hS))
    refine ⟨dInts ns, .list [], Dp.lst hS3 (RA.dp _ _ (RA.ints ns) (hasDict_ints ns)), R.dpp (R_list.mpr ⟨p3, [], rfl, upd_same, by simp [RA]⟩) (Same.refl _) (by simp [plain, plainAll]), shaped_of (plain_dInts _) (Nat.le_trans (depth_dInts _) (by decide)), by decide, .inr ⟨_, rfl, ?_⟩⟩
    generalize hb : PyData.eqv (dInts ns) (.list []) = b
    obtain ⟨m, hm, hm1⟩ : ∃ m : Int, (if b then (1 : Int) else 0) = m ∧ 0 ≤ m ∧ m ≤ 1 := by cases b <;> exact ⟨_, rfl, by decide, by decide⟩
    have h2v := s3 _ _ (upd_same (H := upd H p1 (.lst (ms.map V.int))) (a := p2) (o := .lst [.int 0]))
    refine ⟨p2, _, [.int 0], rfl, rfl, h2v, ?_, ?_, ?_, fun p4 hp4 => ?_⟩
    · cases b <;> decide
    · cases b <;> decide
    · cases b <;> decide
    have er : ∃ zs : List Int, (List.replicate (if b = true then (1 : Int) else 0).toNat [V.int 0]).flatten = zs.map V.int ∧ zs.length ≤ 1 := by
      cases b
      · exact ⟨[], rfl, by decide⟩
      · exact ⟨[0], rfl, by decide⟩
    obtain ⟨zs, ez, zl⟩ := er
    rw [ez]
    have s4 := same_upd (o := .lst (zs.map V.int)) hp4
    refine ⟨p1, p4, _, _, rfl, rfl, s4 _ _ (s3 _ _ (s2 _ _ upd_same)), upd_same, ?_, fun p5 hp5 => ?_⟩
    · rw [List.length_map, List.length_map]
      exact Nat.le_trans (show ms.length + zs.length ≤ 64 by omega) (by decide)
    rw [← List.map_append]
    have cl : (ms ++ zs).length ≤ 64 := by rw [List.length_append]; omega
    have h5 : (upd (upd (upd (upd (upd H p1 (.lst (ms.map V.int))) p2 (.lst [.int 0])) p3 (.lst [])) p4 (.lst (zs.map V.int))) p5 (.lst ((ms ++ zs).map V.int))) p5 = some (.lst ((ms ++ zs).map V.int)) := upd_same
    generalize ms ++ zs = cs at *
    refine ⟨_, rfl, p5, _, rfl, .inl (SqL.of h5), _, rfl, by rw [List.length_map]; omega, by rw [List.length_map]; omega, for_range (lo := 0) (n := ((cs.map V.int).length : Int).toNat)
      (fun i σ H' => ∃ v2, σ = [some (.ref a), some (.ref p5), v2] ∧ H' p5 = some (.lst (cs.map V.int))) ⟨none, rfl, h5⟩ ?_ ?_⟩
    · rintro i σ H' hi ⟨v2, rfl, hc⟩
      have hi' : i < cs.length := by rw [List.length_map] at hi; omega
      have ei : cs[i]? = some cs[i] := List.getElem?_eq_getElem hi'
      have at_ : atI (cs.map V.int) (0 + (i : Int)) = some (.int cs[i]) := by rw [Int.zero_add]; exact atI_nat (by rw [List.getElem?_map, ei]; rfl)
      refine ⟨_, rfl, _, rfl, p5, _, _, _, rfl, rfl, SqL.of hc, at_, _, rfl, cs[i], _, (by rfl), by omega, by omega, fun wl H1 hwl sH hW => ?_⟩
      refine ⟨wl, rfl, hW, fun H2 sm => ⟨_, rfl, ?_⟩⟩
      refine ite2 (fun c => absurd c (by simp)) (fun _ => ?_)
      exact ⟨_, rfl, sm _ _ (fun z => by rw [z, hwl] at hc; cases hc) (sH _ _ hc)⟩
    · rintro σ H' ⟨v2, rfl, hc⟩
      exact q H'
end
end Pz

namespace Pz
open PySem L2
open PyProof.Rows (envOfC)
/-! ### what the top has written -/
theorem all_mk {P : Program} {w : World} {K : PySem.W.Frag} {h base : Heap} {mg : Str → Option Value} {C f1 f2 f3 f4 f5 f6 f7 f8 f9 f10 f11 f12 f13 f14 f15 f16 f17 f18 f19 f20 f21 f22 f23 f24 f25 : Addr} {t_0 t_1 : Tok} (X : K.In h) (G : h.Ns mainGlobals mg) (hs : ∃ o, base.get? sysModules = some o)
    {od1 an1 : Option Addr} {sl1 : Array (Option Value)} {oc1 kV1 dc1 pm1 cd1 ct1 : Value}
    {od2 an2 : Option Addr} {sl2 : Array (Option Value)} {oc2 kV2 dc2 pm2 cd2 ct2 : Value}
    {od3 an3 : Option Addr} {sl3 : Array (Option Value)} {oc3 kV3 dc3 pm3 cd3 ct3 : Value}
    {od4 an4 : Option Addr} {sl4 : Array (Option Value)} {oc4 kV4 dc4 pm4 cd4 ct4 : Value}
    {od5 an5 : Option Addr} {sl5 : Array (Option Value)} {oc5 kV5 dc5 pm5 cd5 ct5 : Value}
    {od6 an6 : Option Addr} {sl6 : Array (Option Value)} {oc6 kV6 dc6 pm6 cd6 ct6 : Value}
    {od7 an7 : Option Addr} {sl7 : Array (Option Value)} {oc7 kV7 dc7 pm7 cd7 ct7 : Value}
    {od8 an8 : Option Addr} {sl8 : Array (Option Value)} {oc8 kV8 dc8 pm8 cd8 ct8 : Value}
    {od9 an9 : Option Addr} {sl9 : Array (Option Value)} {oc9 kV9 dc9 pm9 cd9 ct9 : Value}
    {od10 an10 : Option Addr} {sl10 : Array (Option Value)} {oc10 kV10 dc10 pm10 cd10 ct10 : Value}
    {od11 an11 : Option Addr} {sl11 : Array (Option Value)} {oc11 kV11 dc11 pm11 cd11 ct11 : Value}
    {od12 an12 : Option Addr} {sl12 : Array (Option Value)} {oc12 kV12 dc12 pm12 cd12 ct12 : Value}
    {od13 an13 : Option Addr} {sl13 : Array (Option Value)} {oc13 kV13 dc13 pm13 cd13 ct13 : Value}
    {od14 an14 : Option Addr} {sl14 : Array (Option Value)} {oc14 kV14 dc14 pm14 cd14 ct14 : Value}
    {od15 an15 : Option Addr} {sl15 : Array (Option Value)} {oc15 kV15 dc15 pm15 cd15 ct15 : Value}
    {od16 an16 : Option Addr} {sl16 : Array (Option Value)} {oc16 kV16 dc16 pm16 cd16 ct16 : Value}
    {od17 an17 : Option Addr} {sl17 : Array (Option Value)} {oc17 kV17 dc17 pm17 cd17 ct17 : Value}
    {od18 an18 : Option Addr} {sl18 : Array (Option Value)} {oc18 kV18 dc18 pm18 cd18 ct18 : Value}
    {od19 an19 : Option Addr} {sl19 : Array (Option Value)} {oc19 kV19 dc19 pm19 cd19 ct19 : Value}
    {od20 an20 : Option Addr} {sl20 : Array (Option Value)} {oc20 dc20 pm20 cd20 ct20 : Value} {kD20 : Addr}
    {od21 an21 : Option Addr} {sl21 : Array (Option Value)} {oc21 kV21 dc21 pm21 cd21 ct21 : Value}
    {p22 : Addr} {rest22 : List Value}
    {od22 an22 : Option Addr} {sl22 : Array (Option Value)} {oc22 kV22 dc22 pm22 cd22 ct22 : Value}
    {p23 : Addr} {rest23 : List Value}
    {od23 an23 : Option Addr} {sl23 : Array (Option Value)} {oc23 kV23 dc23 pm23 cd23 ct23 : Value}
    {p24 : Addr} {rest24 : List Value}
    {od24 an24 : Option Addr} {sl24 : Array (Option Value)} {oc24 kV24 dc24 pm24 cd24 ct24 : Value}
    {od25 an25 : Option Addr} {sl25 : Array (Option Value)} {oc25 kV25 dc25 pm25 cd25 ct25 : Value}
    (a1 : PySem.W.nsIn K mainGlobals "_law_well" = some (some (.ref f1)))
    (l1 : K.lookup f1 = some ⟨oc1, od1, .func (PySem.W.fnOf "_law_well" "_law_well" (defArgs s_law_well) (defBody s_law_well) (defScope s_law_well) .none kV1 dc1 pm1 an1 cd1 ct1), sl1⟩) (c1 : PySem.W.codeIn K cd1 "_law_well" = true) (k1 : PySem.W.keepIn K (.ref f1) = true)
    (a2 : PySem.W.nsIn K mainGlobals "_law_pick" = some (some (.ref f2)))
    (l2 : K.lookup f2 = some ⟨oc2, od2, .func (PySem.W.fnOf "_law_pick" "_law_pick" (defArgs s_law_pick) (defBody s_law_pick) (defScope s_law_pick) .none kV2 dc2 pm2 an2 cd2 ct2), sl2⟩) (c2 : PySem.W.codeIn K cd2 "_law_pick" = true) (k2 : PySem.W.keepIn K (.ref f2) = true)
    (a3 : PySem.W.nsIn K mainGlobals "numbers_of" = some (some (.ref f3)))
    (l3 : K.lookup f3 = some ⟨oc3, od3, .func (PySem.W.fnOf "numbers_of" "numbers_of" (defArgs s_numbers_of) (defBody s_numbers_of) (defScope s_numbers_of) .none kV3 dc3 pm3 an3 cd3 ct3), sl3⟩) (c3 : PySem.W.codeIn K cd3 "numbers_of" = true) (k3 : PySem.W.keepIn K (.ref f3) = true)
    (a4 : PySem.W.nsIn K mainGlobals "is_name" = some (some (.ref f4)))
    (l4 : K.lookup f4 = some ⟨oc4, od4, .func (PySem.W.fnOf "is_name" "is_name" (defArgs s_is_name) (defBody s_is_name) (defScope s_is_name) .none kV4 dc4 pm4 an4 cd4 ct4), sl4⟩) (c4 : PySem.W.codeIn K cd4 "is_name" = true) (k4 : PySem.W.keepIn K (.ref f4) = true)
    (a5 : PySem.W.nsIn K mainGlobals "require_name" = some (some (.ref f5)))
    (l5 : K.lookup f5 = some ⟨oc5, od5, .func (PySem.W.fnOf "require_name" "require_name" (defArgs s_require_name) (defBody s_require_name) (defScope s_require_name) .none kV5 dc5 pm5 an5 cd5 ct5), sl5⟩) (c5 : PySem.W.codeIn K cd5 "require_name" = true) (k5 : PySem.W.keepIn K (.ref f5) = true)
    (a6 : PySem.W.nsIn K mainGlobals "require_new_name" = some (some (.ref f6)))
    (l6 : K.lookup f6 = some ⟨oc6, od6, .func (PySem.W.fnOf "require_new_name" "require_new_name" (defArgs s_require_new_name) (defBody s_require_new_name) (defScope s_require_new_name) .none kV6 dc6 pm6 an6 cd6 ct6), sl6⟩) (c6 : PySem.W.codeIn K cd6 "require_new_name" = true) (k6 : PySem.W.keepIn K (.ref f6) = true)
    (a7 : PySem.W.nsIn K mainGlobals "checked_columns" = some (some (.ref f7)))
    (l7 : K.lookup f7 = some ⟨oc7, od7, .func (PySem.W.fnOf "checked_columns" "checked_columns" (defArgs s_checked_columns) (defBody s_checked_columns) (defScope s_checked_columns) .none kV7 dc7 pm7 an7 cd7 ct7), sl7⟩) (c7 : PySem.W.codeIn K cd7 "checked_columns" = true) (k7 : PySem.W.keepIn K (.ref f7) = true)
    (a8 : PySem.W.nsIn K mainGlobals "checked_rows" = some (some (.ref f8)))
    (l8 : K.lookup f8 = some ⟨oc8, od8, .func (PySem.W.fnOf "checked_rows" "checked_rows" (defArgs s_checked_rows) (defBody s_checked_rows) (defScope s_checked_rows) .none kV8 dc8 pm8 an8 cd8 ct8), sl8⟩) (c8 : PySem.W.codeIn K cd8 "checked_rows" = true) (k8 : PySem.W.keepIn K (.ref f8) = true)
    (a9 : PySem.W.nsIn K mainGlobals "checked_steps" = some (some (.ref f9)))
    (l9 : K.lookup f9 = some ⟨oc9, od9, .func (PySem.W.fnOf "checked_steps" "checked_steps" (defArgs s_checked_steps) (defBody s_checked_steps) (defScope s_checked_steps) .none kV9 dc9 pm9 an9 cd9 ct9), sl9⟩) (c9 : PySem.W.codeIn K cd9 "checked_steps" = true) (k9 : PySem.W.keepIn K (.ref f9) = true)
    (a10 : PySem.W.nsIn K mainGlobals "checked_kinds" = some (some (.ref f10)))
    (l10 : K.lookup f10 = some ⟨oc10, od10, .func (PySem.W.fnOf "checked_kinds" "checked_kinds" (defArgs s_checked_kinds) (defBody s_checked_kinds) (defScope s_checked_kinds) .none kV10 dc10 pm10 an10 cd10 ct10), sl10⟩) (c10 : PySem.W.codeIn K cd10 "checked_kinds" = true) (k10 : PySem.W.keepIn K (.ref f10) = true)
    (a11 : PySem.W.nsIn K mainGlobals "_law_told" = some (some (.ref f11)))
    (l11 : K.lookup f11 = some ⟨oc11, od11, .func (PySem.W.fnOf "_law_told" "_law_told" (defArgs s_law_told) (defBody s_law_told) (defScope s_law_told) .none kV11 dc11 pm11 an11 cd11 ct11), sl11⟩) (c11 : PySem.W.codeIn K cd11 "_law_told" = true) (k11 : PySem.W.keepIn K (.ref f11) = true)
    (a12 : PySem.W.nsIn K mainGlobals "_law_due" = some (some (.ref f12)))
    (l12 : K.lookup f12 = some ⟨oc12, od12, .func (PySem.W.fnOf "_law_due" "_law_due" (defArgs s_law_due) (defBody s_law_due) (defScope s_law_due) .none kV12 dc12 pm12 an12 cd12 ct12), sl12⟩) (c12 : PySem.W.codeIn K cd12 "_law_due" = true) (k12 : PySem.W.keepIn K (.ref f12) = true)
    (a13 : PySem.W.nsIn K mainGlobals "_law_rows" = some (some (.ref f13)))
    (l13 : K.lookup f13 = some ⟨oc13, od13, .func (PySem.W.fnOf "_law_rows" "_law_rows" (defArgs s_law_rows) (defBody s_law_rows) (defScope s_law_rows) .none kV13 dc13 pm13 an13 cd13 ct13), sl13⟩) (c13 : PySem.W.codeIn K cd13 "_law_rows" = true) (k13 : PySem.W.keepIn K (.ref f13) = true)
    (a14 : PySem.W.nsIn K mainGlobals "_law_made" = some (some (.ref f14)))
    (l14 : K.lookup f14 = some ⟨oc14, od14, .func (PySem.W.fnOf "_law_made" "_law_made" (defArgs s_law_made) (defBody s_law_made) (defScope s_law_made) .none kV14 dc14 pm14 an14 cd14 ct14), sl14⟩) (c14 : PySem.W.codeIn K cd14 "_law_made" = true) (k14 : PySem.W.keepIn K (.ref f14) = true)
    (a15 : PySem.W.nsIn K mainGlobals "_law_shown" = some (some (.ref f15)))
    (l15 : K.lookup f15 = some ⟨oc15, od15, .func (PySem.W.fnOf "_law_shown" "_law_shown" (defArgs s_law_shown) (defBody s_law_shown) (defScope s_law_shown) .none kV15 dc15 pm15 an15 cd15 ct15), sl15⟩) (c15 : PySem.W.codeIn K cd15 "_law_shown" = true) (k15 : PySem.W.keepIn K (.ref f15) = true)
    (a16 : PySem.W.nsIn K mainGlobals "_law_spoilt" = some (some (.ref f16)))
    (l16 : K.lookup f16 = some ⟨oc16, od16, .func (PySem.W.fnOf "_law_spoilt" "_law_spoilt" (defArgs s_law_spoilt) (defBody s_law_spoilt) (defScope s_law_spoilt) .none kV16 dc16 pm16 an16 cd16 ct16), sl16⟩) (c16 : PySem.W.codeIn K cd16 "_law_spoilt" = true) (k16 : PySem.W.keepIn K (.ref f16) = true)
    (a17 : PySem.W.nsIn K mainGlobals "_law_right" = some (some (.ref f17)))
    (l17 : K.lookup f17 = some ⟨oc17, od17, .func (PySem.W.fnOf "_law_right" "_law_right" (defArgs s_law_right) (defBody s_law_right) (defScope s_law_right) .none kV17 dc17 pm17 an17 cd17 ct17), sl17⟩) (c17 : PySem.W.codeIn K cd17 "_law_right" = true) (k17 : PySem.W.keepIn K (.ref f17) = true)
    (a18 : PySem.W.nsIn K mainGlobals "law" = some (some (.ref f18)))
    (l18 : K.lookup f18 = some ⟨oc18, od18, .func (PySem.W.fnOf "law" "law" (defArgs s_law) (defBody s_law) (defScope s_law) .none kV18 dc18 pm18 an18 cd18 ct18), sl18⟩) (c18 : PySem.W.codeIn K cd18 "law" = true) (k18 : PySem.W.keepIn K (.ref f18) = true)
    (a19 : PySem.W.nsIn K mainGlobals "movement" = some (some (.ref f19)))
    (l19 : K.lookup f19 = some ⟨oc19, od19, .func (PySem.W.fnOf "movement" "movement" (defArgs s_movement) (defBody s_movement) (defScope s_movement) .none kV19 dc19 pm19 an19 cd19 ct19), sl19⟩) (c19 : PySem.W.codeIn K cd19 "movement" = true) (k19 : PySem.W.keepIn K (.ref f19) = true)
    (a20 : PySem.W.nsIn K mainGlobals "payments" = some (some (.ref f20)))
    (l20 : K.lookup f20 = some ⟨oc20, od20, .func (PySem.W.fnOf "payments" "payments" (defArgs s_payments) (defBody s_payments) (defScope s_payments) .none (.ref kD20) dc20 pm20 an20 cd20 ct20), sl20⟩) (c20 : PySem.W.codeIn K cd20 "payments" = true) (k20 : PySem.W.keepIn K (.ref f20) = true)
    (kw20_0 : PySem.W.nsIn K kD20 "numbered" = some (some (.bool true)))
    (kw20_1 : PySem.W.nsIn K kD20 "checked" = some (some (.bool true)))
    (aC : PySem.W.nsIn K mainGlobals "Plan" = some (some (.ref C))) (pg : PySem.W.plainGet K C Str.empty = true) (hd : PySem.W.hasDictIn K C = true) (po : PySem.W.plainOver K C = true) (sa : PySem.W.findIn K (.ref C) "__setattr__" = some (some (.builtin "object.__setattr__"))) (mk : PySem.W.makesIn K C = true) (kc : PySem.W.keepIn K (.ref C) = true)
    (n1 : PySem.W.findIn K (.ref C) "_columns" = some none)
    (n2 : PySem.W.findIn K (.ref C) "_kinds" = some none)
    (n3 : PySem.W.findIn K (.ref C) "_checks" = some none)
    (a21 : PySem.W.findIn K (.ref C) "__init__" = some (some (.ref f21))) (i21 : PySem.W.isFn K (.ref f21) = true)
    (l21 : K.lookup f21 = some ⟨oc21, od21, .func (PySem.W.fnOf "__init__" "Plan.__init__" (defArgs s_Planinit) (defBody s_Planinit) (defScope s_Planinit) .none kV21 dc21 pm21 an21 cd21 ct21), sl21⟩) (c21 : PySem.W.codeIn K cd21 "Plan.__init__" = true) (k21 : PySem.W.keepIn K (.ref f21) = true)
    (a22 : PySem.W.findIn K (.ref C) "columns" = some (some (.ref p22))) (g22 : PySem.W.specialIn K (.ref p22) "__get__" = some (some (.builtin "property.__get__"))) (t22 : PySem.W.takesIn K (.ref p22) = some true) (r22 : PySem.W.recIn K p22 "property" = some (.ref f22 :: rest22))
    (l22 : K.lookup f22 = some ⟨oc22, od22, .func (PySem.W.fnOf "columns" "Plan.columns" (defArgs s_Plan_columns) (defBody s_Plan_columns) (defScope s_Plan_columns) .none kV22 dc22 pm22 an22 cd22 ct22), sl22⟩) (c22 : PySem.W.codeIn K cd22 "Plan.columns" = true) (k22 : PySem.W.keepIn K (.ref f22) = true)
    (a23 : PySem.W.findIn K (.ref C) "kinds" = some (some (.ref p23))) (g23 : PySem.W.specialIn K (.ref p23) "__get__" = some (some (.builtin "property.__get__"))) (t23 : PySem.W.takesIn K (.ref p23) = some true) (r23 : PySem.W.recIn K p23 "property" = some (.ref f23 :: rest23))
    (l23 : K.lookup f23 = some ⟨oc23, od23, .func (PySem.W.fnOf "kinds" "Plan.kinds" (defArgs s_Plan_kinds) (defBody s_Plan_kinds) (defScope s_Plan_kinds) .none kV23 dc23 pm23 an23 cd23 ct23), sl23⟩) (c23 : PySem.W.codeIn K cd23 "Plan.kinds" = true) (k23 : PySem.W.keepIn K (.ref f23) = true)
    (a24 : PySem.W.findIn K (.ref C) "checks" = some (some (.ref p24))) (g24 : PySem.W.specialIn K (.ref p24) "__get__" = some (some (.builtin "property.__get__"))) (t24 : PySem.W.takesIn K (.ref p24) = some true) (r24 : PySem.W.recIn K p24 "property" = some (.ref f24 :: rest24))
    (l24 : K.lookup f24 = some ⟨oc24, od24, .func (PySem.W.fnOf "checks" "Plan.checks" (defArgs s_Plan_checks) (defBody s_Plan_checks) (defScope s_Plan_checks) .none kV24 dc24 pm24 an24 cd24 ct24), sl24⟩) (c24 : PySem.W.codeIn K cd24 "Plan.checks" = true) (k24 : PySem.W.keepIn K (.ref f24) = true)
    (z1 : PySem.W.nsIn K mainGlobals "max" = some none)
    (z2 : PySem.W.nsIn K mainGlobals "int" = some none)
    (z3 : PySem.W.nsIn K mainGlobals "len" = some none)
    (z4 : PySem.W.nsIn K mainGlobals "range" = some none)
    (z5 : PySem.W.nsIn K mainGlobals "list" = some none)
    (z6 : PySem.W.nsIn K mainGlobals "sorted" = some none)
    (z7 : PySem.W.nsIn K mainGlobals "all" = some none)
    (z8 : PySem.W.nsIn K mainGlobals "repr" = some none)
    (z9 : PySem.W.nsIn K mainGlobals "isinstance" = some none)
    (c_1 : PySem.W.findIn K (.ref C) "__class__" = some (some (.builtin "object.__class__"))) (c_2 : PySem.W.specialIn K (.builtin "object.__class__") "__get__" = some (some (.builtin "getset_descriptor.__get__"))) (c_3 : PySem.W.takesIn K (.builtin "object.__class__") = some true) (c_4 : PySem.W.mroIn K C (.type "object") = some true)
    (a25 : PySem.W.findIn K (.ref C) "__eq__" = some (some (.ref f25))) (i25 : PySem.W.isFn K (.ref f25) = true)
    (l25 : K.lookup f25 = some ⟨oc25, od25, .func (PySem.W.fnOf "__eq__" "Plan.__eq__" (defArgs s_Planeq) (defBody s_Planeq) (defScope s_Planeq) .none kV25 dc25 pm25 an25 cd25 ct25), sl25⟩) (c25 : PySem.W.codeIn K cd25 "Plan.__eq__" = true) (k25 : PySem.W.keepIn K (.ref f25) = true)
    (g_0 : PySem.W.nsIn K mainGlobals "LETTERS" = some (some (.str "abcdefghijklmnopqrstuvwxyz" t_0)))
    (g_1 : PySem.W.nsIn K mainGlobals "MOST_LETTERS" = some (some (.int 8 t_1)))
    : FnG P w K mg base 10 "law" ["script"] (spLaw K) := by
  have F1 := fun_mk (st := s_law_well) l1 c1 k1
  have b1 := F1.binds (ps := ["cell", "k"]) fun _ _ _ _ _ _ us hl => match us, hl with | [_, _], _ => rfl
  have F2 := fun_mk (st := s_law_pick) l2 c2 k2
  have b2 := F2.binds (ps := ["well", "many"]) fun _ _ _ _ _ _ us hl => match us, hl with | [_, _], _ => rfl
  have F3 := fun_mk (st := s_numbers_of) l3 c3 k3
  have b3 := F3.binds (ps := ["columns", "table"]) fun _ _ _ _ _ _ us hl => match us, hl with | [_, _], _ => rfl
  have F4 := fun_mk (st := s_is_name) l4 c4 k4
  have b4 := F4.binds (ps := ["text"]) fun _ _ _ _ _ _ us hl => match us, hl with | [_], _ => rfl
  have F5 := fun_mk (st := s_require_name) l5 c5 k5
  have b5 := F5.binds (ps := ["text"]) fun _ _ _ _ _ _ us hl => match us, hl with | [_], _ => rfl
  have F6 := fun_mk (st := s_require_new_name) l6 c6 k6
  have b6 := F6.binds (ps := ["text", "earlier"]) fun _ _ _ _ _ _ us hl => match us, hl with | [_, _], _ => rfl
  have F7 := fun_mk (st := s_checked_columns) l7 c7 k7
  have b7 := F7.binds (ps := ["columns"]) fun _ _ _ _ _ _ us hl => match us, hl with | [_], _ => rfl
  have F8 := fun_mk (st := s_checked_rows) l8 c8 k8
  have b8 := F8.binds (ps := ["columns", "kind", "states"]) fun _ _ _ _ _ _ us hl => match us, hl with | [_, _, _], _ => rfl
  have F9 := fun_mk (st := s_checked_steps) l9 c9 k9
  have b9 := F9.binds (ps := ["size", "steps"]) fun _ _ _ _ _ _ us hl => match us, hl with | [_, _], _ => rfl
  have F10 := fun_mk (st := s_checked_kinds) l10 c10 k10
  have b10 := F10.binds (ps := ["columns", "kinds"]) fun _ _ _ _ _ _ us hl => match us, hl with | [_, _], _ => rfl
  have F11 := fun_mk (st := s_law_told) l11 c11 k11
  have b11 := F11.binds (ps := ["label", "done", "known", "once"]) fun _ _ _ _ _ _ us hl => match us, hl with | [_, _, _, _], _ => rfl
  have F12 := fun_mk (st := s_law_due) l12 c12 k12
  have b12 := F12.binds (ps := ["once", "guarded"]) fun _ _ _ _ _ _ us hl => match us, hl with | [_, _], _ => rfl
  have F13 := fun_mk (st := s_law_rows) l13 c13 k13
  have b13 := F13.binds (ps := ["due"]) fun _ _ _ _ _ _ us hl => match us, hl with | [_], _ => rfl
  have F14 := fun_mk (st := s_law_made) l14 c14 k14
  have b14 := F14.binds (ps := ["once", "guarded", "way"]) fun _ _ _ _ _ _ us hl => match us, hl with | [_, _, _], _ => rfl
  have F15 := fun_mk (st := s_law_shown) l15 c15 k15
  have b15 := F15.binds (ps := ["scheme", "way"]) fun _ _ _ _ _ _ us hl => match us, hl with | [_, _], _ => rfl
  have F16 := fun_mk (st := s_law_spoilt) l16 c16 k16
  have b16 := F16.binds (ps := ["scheme", "well"]) fun _ _ _ _ _ _ us hl => match us, hl with | [_, _], _ => rfl
  have F17 := fun_mk (st := s_law_right) l17 c17 k17
  have b17 := F17.binds (ps := ["well"]) fun _ _ _ _ _ _ us hl => match us, hl with | [_], _ => rfl
  have F18 := fun_mk (st := s_law) l18 c18 k18
  have b18 := F18.binds (ps := ["script"]) fun _ _ _ _ _ _ us hl => match us, hl with | [_], _ => rfl
  have F19 := fun_mk (st := s_movement) l19 c19 k19
  have b19 := F19.binds (ps := ["name", "done", "heard", "numbered"]) fun _ _ _ _ _ _ us hl => match us, hl with | [_, _, _, _], _ => rfl
  have FD_payments : FunD K "payments" "payments" (defArgs s_payments) (defBody s_payments) (defScope s_payments) [] [("numbered", .bl true), ("checked", .bl true)] f20 _ := ⟨⟨oc20, od20, .none, .ref kD20, dc20, pm20, an20, cd20, ct20, sl20, rfl, l20, c20, .inl ⟨rfl, rfl⟩, .inr ⟨kD20, rfl, fun q hq => by (rcases List.mem_cons.mp hq with rfl | hq; exact ⟨_, kw20_0, rfl⟩; rcases List.mem_cons.mp hq with rfl | hq; exact ⟨_, kw20_1, rfl⟩;  exact nomatch hq)⟩⟩, k20⟩
  have F21 := fun_mk (st := s_Planinit) l21 c21 k21
  have b21 := F21.binds (ps := ["self", "columns", "kinds", "checks"]) fun _ _ _ _ _ _ us hl => match us, hl with | [_, _, _, _], _ => rfl
  have F22 := fun_mk (st := s_Plan_columns) l22 c22 k22
  have b22 := F22.binds (ps := ["self"]) fun _ _ _ _ _ _ us hl => match us, hl with | [_], _ => rfl
  have F23 := fun_mk (st := s_Plan_kinds) l23 c23 k23
  have b23 := F23.binds (ps := ["self"]) fun _ _ _ _ _ _ us hl => match us, hl with | [_], _ => rfl
  have F24 := fun_mk (st := s_Plan_checks) l24 c24 k24
  have b24 := F24.binds (ps := ["self"]) fun _ _ _ _ _ _ us hl => match us, hl with | [_], _ => rfl
  have F25 := fun_mk (st := s_Planeq) l25 c25 k25
  have b25 := F25.binds (ps := ["self", "other"]) fun _ _ _ _ _ _ us hl => match us, hl with | [_, _], _ => rfl
  have T : Txt K mg := ⟨⟨f1, _, PySem.W.mg_of X G a1, F1, b1⟩, ⟨f2, _, PySem.W.mg_of X G a2, F2, b2⟩, ⟨f3, _, PySem.W.mg_of X G a3, F3, b3⟩, ⟨f4, _, PySem.W.mg_of X G a4, F4, b4⟩, ⟨f5, _, PySem.W.mg_of X G a5, F5, b5⟩, ⟨f6, _, PySem.W.mg_of X G a6, F6, b6⟩, ⟨f7, _, PySem.W.mg_of X G a7, F7, b7⟩, ⟨f8, _, PySem.W.mg_of X G a8, F8, b8⟩, ⟨f9, _, PySem.W.mg_of X G a9, F9, b9⟩, ⟨f10, _, PySem.W.mg_of X G a10, F10, b10⟩, PySem.W.mg_none_of X G z1, PySem.W.mg_none_of X G z2, PySem.W.mg_none_of X G z3, PySem.W.mg_none_of X G z4, PySem.W.mg_none_of X G z5, PySem.W.mg_none_of X G z6, PySem.W.mg_none_of X G z7, PySem.W.mg_none_of X G z8, ⟨t_0, PySem.W.mg_of X G g_0⟩, ⟨t_1, PySem.W.mg_of X G g_1⟩⟩
  have TT : Txt2 K mg := ⟨T, ⟨f11, _, PySem.W.mg_of X G a11, F11, b11⟩, ⟨f12, _, PySem.W.mg_of X G a12, F12, b12⟩, ⟨f13, _, PySem.W.mg_of X G a13, F13, b13⟩, ⟨f14, _, PySem.W.mg_of X G a14, F14, b14⟩, ⟨f15, _, PySem.W.mg_of X G a15, F15, b15⟩, ⟨f16, _, PySem.W.mg_of X G a16, F16, b16⟩, ⟨f17, _, PySem.W.mg_of X G a17, F17, b17⟩, ⟨f18, _, PySem.W.mg_of X G a18, F18, b18⟩, ⟨f19, _, PySem.W.mg_of X G a19, F19, b19⟩⟩
  have L : PlanT K mg C := ⟨⟨pg, hd, po, sa⟩, n1, n2, n3, PySem.W.mg_of X G aC, ⟨f21, _, ⟨mk, a21, i21, kc⟩, F21, b21⟩, ⟨p22, f22, _, ⟨a22, g22, t22, rest22, r22⟩, F22, b22⟩, ⟨p23, f23, _, ⟨a23, g23, t23, rest23, r23⟩, F23, b23⟩, ⟨p24, f24, _, ⟨a24, g24, t24, rest24, r24⟩, F24, b24⟩⟩
  have M : PlanM K mg C := ⟨PySem.W.mg_none_of X G z9, c_1, c_2, c_3, c_4, ⟨f25, _, a25, i25, F25, b25⟩⟩
  exact ok_law TT L M (PySem.W.mg_of X G a20) FD_payments hs
end Pz
open PySem PySem.W PyProof.Rows
set_option maxRecDepth 100000 in
set_option maxHeartbeats 0 in
theorem PySem.Challenge.cw_paidinparts_k39_payments_holds : PySem.Challenge.rw_paidinparts_k39_payments.Holds := by
  w_on; o_law; k_head; (case hw => w_witness2)
  k_fill
  refine Pz.walkG (l := PySem.Challenge.rw_paidinparts_k39_payments) (k := 10) (x := "script") (sp := Pz.spLaw) rfl rfl (by first | rfl | decide +kernel) ⟨rfl, by decide, by decide⟩ (fun w h Y => PySem.W.kIn_of Y) ?F (fun K H a ns Q hl hS hQ => ⟨a, ns, rfl, hl, hS, hQ⟩)
  case F =>
    intro w mg h KX G base b1 b2 b3
    refine' Pz.all_mk KX G b3 ?a1 ?l1 ?c1 ?k1 ?a2 ?l2 ?c2 ?k2 ?a3 ?l3 ?c3 ?k3 ?a4 ?l4 ?c4 ?k4 ?a5 ?l5 ?c5 ?k5 ?a6 ?l6 ?c6 ?k6 ?a7 ?l7 ?c7 ?k7 ?a8 ?l8 ?c8 ?k8 ?a9 ?l9 ?c9 ?k9 ?a10 ?l10 ?c10 ?k10 ?a11 ?l11 ?c11 ?k11 ?a12 ?l12 ?c12 ?k12 ?a13 ?l13 ?c13 ?k13 ?a14 ?l14 ?c14 ?k14 ?a15 ?l15 ?c15 ?k15 ?a16 ?l16 ?c16 ?k16 ?a17 ?l17 ?c17 ?k17 ?a18 ?l18 ?c18 ?k18 ?a19 ?l19 ?c19 ?k19 ?a20 ?l20 ?c20 ?k20 ?kw20_0 ?kw20_1 ?aC ?pg ?hd ?po ?sa ?mk ?kc ?n1 ?n2 ?n3 ?a21 ?i21 ?l21 ?c21 ?k21 ?a22 ?g22 ?t22 ?r22 ?l22 ?c22 ?k22 ?a23 ?g23 ?t23 ?r23 ?l23 ?c23 ?k23 ?a24 ?g24 ?t24 ?r24 ?l24 ?c24 ?k24 ?z1 ?z2 ?z3 ?z4 ?z5 ?z6 ?z7 ?z8 ?z9 ?c_1 ?c_2 ?c_3 ?c_4 ?a25 ?i25 ?l25 ?c25 ?k25 ?g_0 ?g_1
    (case a1 => k_is); (case l1 => k_is); (case c1 => k_is); (case k1 => k_is); (case a2 => k_is); (case l2 => k_is)
    (case c2 => k_is); (case k2 => k_is); (case a3 => k_is); (case l3 => k_is); (case c3 => k_is); (case k3 => k_is)
    (case a4 => k_is); (case l4 => k_is); (case c4 => k_is); (case k4 => k_is); (case a5 => k_is); (case l5 => k_is)
    (case c5 => k_is); (case k5 => k_is); (case a6 => k_is); (case l6 => k_is); (case c6 => k_is); (case k6 => k_is)
    (case a7 => k_is); (case l7 => k_is); (case c7 => k_is); (case k7 => k_is); (case a8 => k_is); (case l8 => k_is)
    (case c8 => k_is); (case k8 => k_is); (case a9 => k_is); (case l9 => k_is); (case c9 => k_is); (case k9 => k_is)
    (case a10 => k_is); (case l10 => k_is); (case c10 => k_is); (case k10 => k_is); (case a11 => k_is); (case l11 => k_is)
    (case c11 => k_is); (case k11 => k_is); (case a12 => k_is); (case l12 => k_is); (case c12 => k_is); (case k12 => k_is)
    (case a13 => k_is); (case l13 => k_is); (case c13 => k_is); (case k13 => k_is); (case a14 => k_is); (case l14 => k_is)
    (case c14 => k_is); (case k14 => k_is); (case a15 => k_is); (case l15 => k_is); (case c15 => k_is); (case k15 => k_is)
    (case a16 => k_is); (case l16 => k_is); (case c16 => k_is); (case k16 => k_is); (case a17 => k_is); (case l17 => k_is)
    (case c17 => k_is); (case k17 => k_is); (case a18 => k_is); (case l18 => k_is); (case c18 => k_is); (case k18 => k_is)
    (case a19 => k_is); (case l19 => k_is); (case c19 => k_is); (case k19 => k_is); (case a20 => k_is); (case l20 => k_is)
    (case c20 => k_is); (case k20 => k_is); (case kw20_0 => k_is); (case kw20_1 => k_is); (case aC => k_is); (case pg => k_is)
    (case hd => k_is); (case po => k_is); (case sa => k_is); (case mk => k_is); (case kc => k_is); (case n1 => k_is)
    (case n2 => k_is); (case n3 => k_is); (case a21 => k_is); (case i21 => k_is); (case l21 => k_is); (case c21 => k_is)
    (case k21 => k_is); (case a22 => k_is); (case g22 => k_is); (case t22 => k_is); (case r22 => k_is); (case l22 => k_is)
    (case c22 => k_is); (case k22 => k_is); (case a23 => k_is); (case g23 => k_is); (case t23 => k_is); (case r23 => k_is)
    (case l23 => k_is); (case c23 => k_is); (case k23 => k_is); (case a24 => k_is); (case g24 => k_is); (case t24 => k_is)
    (case r24 => k_is); (case l24 => k_is); (case c24 => k_is); (case k24 => k_is); (case z1 => k_is); (case z2 => k_is)
    (case z3 => k_is); (case z4 => k_is); (case z5 => k_is); (case z6 => k_is); (case z7 => k_is); (case z8 => k_is)
    (case z9 => k_is); (case c_1 => k_is); (case c_2 => k_is); (case c_3 => k_is); (case c_4 => k_is); (case a25 => k_is)
    (case i25 => k_is); (case l25 => k_is); (case c25 => k_is); (case k25 => k_is); (case g_0 => k_is); (case g_1 => k_is)

